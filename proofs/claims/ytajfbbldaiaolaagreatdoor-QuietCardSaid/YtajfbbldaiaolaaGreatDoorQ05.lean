import Derived.Test.YtajfbbldaiaolaaGreatDoorQ04
set_option linter.unusedSimpArgs false
set_option linter.unusedVariables false
set_option maxRecDepth 100000
set_option maxHeartbeats 4000000
namespace Go.Proofs.YtajfbbldaiaolaaGreatDoor
open Go.RowKit Go.Maps
variable {L:List Nat}{a b c d g m n:Nat}{w:World}
theorem mQ(l:List Pn):(lY l).length=l.length*3:=by
 induction l with
 |nil=>rfl
 |cons a l ih=>simp only[lY,List.flatMap_cons,List.length_append,List.length_cons]at ih⊢;rw[ih];simp[Jh];omega
theorem kJ(l m:List Pn):lY (l++m)=lY l++lY m:=by simp[lY]
theorem Ei(r1 r2:List Pn)(a:Pn)(j:Nat)(A:j< 3):(lY (r1++a::r2))[r1.length*3+j]?=(Jh a)[j]?:=by
 rw[kJ,List.getElem?_append_right (by rw[mQ];omega),mQ]
 have:r1.length*3+j-r1.length*3=j:=by omega
 rw[this]
 show(Jh a++lY r2)[j]?=_
 rw[List.getElem?_append_left (by simp[Jh];omega)]
theorem BI(r1 r2:List Pn)(a:Pn)(m:Nat):(lY (r1++a::r2)).set (r1.length*3+2) (aB m)=lY (r1++{a with num:=m}::r2):=by
 rw[kJ,kJ,List.set_append_right _ _ (by rw[mQ];omega),mQ]
 have:r1.length*3+2-r1.length*3=2:=by omega
 rw[this]
 rfl
structure PI(w wr:World)(bn bm n bf bl g cg:Nat)(f:aJ->Option (Nat×Nat))(R:Except (Nat×Nat) (List Pn×Lc))(ps r1 r2:List Pn)(l:Lc):Prop where
 nm:NM wr bn bm n f
 hc:wr.cell? ⟨bf,1,none⟩=some (.map (some bl))
 lc:eP wr bl l.c l.g
 row:wr.ownsRow 0 119 3 (.slice (some ⟨g,0,none⟩) ps.length cg) ps.length (lY (r1++r2))
 kp:aC (fun i=>i=bl\/i=g) w wr
 eq:R=match gR f l r1.length r2 with|.ok (r',l')=>.ok (r1++r',l')|.error e=>.error e
 len:r1.length+r2.length=ps.length
 cl:l.c=r1.length
 l3:r1.length<=3
theorem PI.name{wr:World}{bn e:Nat}{f:aJ->Option (Nat×Nat)}{R:Except (Nat×Nat) (List Pn×Lc)}{C r1 r2:List Pn}{l:Lc}{a:Pn}(h:PI w wr bn b n c d g e f R C r1 (a::r2) l)(D:a.text.length<=1000000):kr wr g (r1.length*3) ⟨a.text.toArray⟩ a.at_:=by
 have A:=h.len
 simp at A
 have B:∀j,j< 3->wr.cell? (Ad g (r1.length*3+j))=(Jh a)[j]?:=fun j F=>by rw[h.row.cellAt _ (by omega)];exact Ei r1 r2 a j F
 refine⟨B 0 (by decide),B 1 (by decide),⟨a.num,B 2 (by decide)⟩,?_,D⟩
 rcases h.row.2 with⟨_,K⟩|⟨L,cap,H,E,J,G,_⟩
 ·omega
 ·cases E
  rw[World.frozen?]
  simp[G]
theorem PI.step{wr w':World}{bn o:Nat}{f:aJ->Option (Nat×Nat)}{R:Except (Nat×Nat) (List Pn×Lc)}{M r1 r2:List Pn}{l:Lc}{a:Pn}(h:PI w wr bn b n d m g o f R M r1 (a::r2) l)(J:g≠m)(D:bn≠g)(C:bn≠m)(F:b≠g)(E:b≠m)(L:d≠g)(K:d≠m)(S:f a.text=none)(hg:l.g a.text=none)(W:r1.length≠3)
  (N:((me (wr.setCell ⟨g,r1.length*3+2,none⟩ (.int .i64 r1.length))).drew).mapTurned w' m) (V:eP w' m (l.c+1) (fun s=>if s=a.text then some r1.length else l.g s)):
  PI w w' bn b n d m g o f R M (r1++[{a with num:=r1.length}]) r2 ⟨fun s=>if s=a.text then some r1.length else l.g s,l.c+1⟩:=by
 have A:=h.len
 simp at A
 have H:g< wr.heap.size:=(h.row.lt g rfl).2
 have P:aC (aK g) wr (me (wr.setCell (Ad g (r1.length*3+2)) (aB r1.length))):=(((((aC.refl (aK g) wr).set1 (r1.length*3+2) _).alloc _).drew).drew)
 have B:aC (fun i=>i=m\/i=g) wr w':=aC.grown ((P.mono (T:=fun i=>i=m\/i=g) (fun _ e=>.inr e)).drew) N.grown (fun k G=>by cases G;exact .inl (.inl rfl))
 refine⟨⟨?_,h.nm.th.kept B (fun e=>e.elim E F)⟩,?_,V,?_,h.kp.trans B,?_,by simp;omega,by simp[h.cl],by simp;have:=h.l3;omega⟩
 ·rw[B.cell (p:=Ad bn 1) (aD (a:=(Ad bn 1)) h.nm.c1) (fun e=>e.elim C D)];exact h.nm.c1
 ·rw[B.cell (p:=Ad d 1) (aD (a:=(Ad d 1)) h.hc) (fun e=>e.elim K L)];exact h.hc
 ·have O:aC (fun i=>i=m) (wr.setCell (Ad g (r1.length*3+2)) (aB r1.length)) w':=aC.grown (((((aC.refl (fun i=>i=m) _).alloc _).drew).drew).drew) N.grown (fun k G=>by cases G;exact .inl rfl)
  have:=sW (w':=w') h.row rfl (j:=r1.length*3+2) (u:=aB r1.length) (by omega) (fun X Q=>by
   rw[O.block g (by simpa[World.setCell]using H) J];exact heap_setCell Q _ _)
  rw[BI]at this
  simpa using this
 ·rw[h.eq,gR]
  have e:¬((f a.text).isSome=true\/(l.g a.text).isSome=true):=by rw[S,hg];simp
  rw[if_neg e,if_neg W]
  simp only[List.length_append,List.length_singleton]
  cases gR f ⟨fun s=>if s=a.text then some r1.length else l.g s,l.c+1⟩ (r1.length+1) r2 with
  |error e=>rfl
  |ok x=>simp
theorem EG{bn h j k:Nat}{f:aJ->Option (Nat×Nat)}{B:List Pn}(hI:PI w w bn b n d h g k f (gR f ⟨fun _=>none,0⟩ 0 B) B [] B ⟨fun _=>none,0⟩)(V:g≠h)(q:bn≠g)(o:bn≠h)(u:b≠g)(t:b≠h)(a0:d≠g)(z:d≠h)(c0:w.cell? (Ad d 0)=some (aF j))(c4:w.cell? (Ad j 4)=some (.slice (some (Ad g 0)) B.length k))(hz:∀a,a∈B->a.text.length<=1000000)(a5:B.length<=1000000):
  Calls Tryz.prog 40 #[Pt bn 0,Pt d 0] w fun r w'=>aC (fun i=>i=h\/i=g) w w'/\((∃R l',gR f ⟨fun _=>none,0⟩ 0 B=.ok (R,l')/\r=.returned (.tuple #[])/\PI w w' bn b n d h g k f (gR f ⟨fun _=>none,0⟩ 0 B) B R [] l')\/(∃e a,gR f ⟨fun _=>none,0⟩ 0 B=.error (e,a)/\dA w' r e a)):=by
 obtain⟨HI,HZ⟩:=aN hI hz
 clear hI hz
 go_in
 go_wp2_with fail
 clear c0 c4
 go_loopw [20] (fun i wr=>∃(l:Lc) (r1 r2:List Pn),i=aB r1.length/\Hid (PI w wr bn b n d h g k f (gR f ⟨fun _=>none,0⟩ 0 B) B r1 r2 l)/\Hid (∀a,a∈r2->a.text.length<=1000000)) (fun i _=>B.length-(intOf i).toNat)
 case atStart=>exact⟨_,[],B,rfl,HI,HZ⟩
 case round=>
  obtain⟨l,r1,r2,rfl,A,Z⟩:=hrel
  have H:=A.len
  rcases r2 with _|⟨a,r2⟩
  ·have y:¬((r1.length:Int)< (B.length:Int)):=by simp at H;omega
   have G:Hid (gR f ⟨fun _=>none,0⟩ 0 B=.ok (r1,l)):=by show _=_;rw[A.out.eq,gR];simp
   clear H
   go_wp2_with fail
   first|go_end0|refine bodyPost_ret (results_none rfl _ _ _) rfl ?_
   exact⟨A.kp,.inl ⟨r1,l,G,rfl,A⟩⟩
  ·have a6:r1.length< B.length:=by simp at H;omega
   have y:(r1.length:Int)< (B.length:Int):=by omega
   clear H
   have D:a.text.length<=1000000:=Z a (by simp)
   have a3:Hid (∀x,x∈r2->x.text.length<=1000000):=fun x hx=>Z x (by simp[hx])
   have L:=aG (A.name D)
   have t0:=L.t0
   have t1:=L.t1
   obtain⟨m2,t2⟩:=L.t2
   have tf:=L.fz
   have c1:=A.nm.c1
   have hc:=A.hc
   have a7:bn< wr.heap.size:=aD (a:=(Ad bn 1)) c1
   have a9:d< wr.heap.size:=aD (a:=(Ad d 1)) hc
   have a8:g< wr.heap.size:=aD t0
   have Q:=(A.nm.th.move (w':=wr.drew) rfl).look ⟨a.text.toArray⟩ D
   have P:Hid (gR f l r1.length (a::r2)=if(f a.text).isSome=true\/(l.g a.text).isSome=true then .error (7,a.at_)else if r1.length=3 then .error (8,a.at_)else match gR f ⟨fun s=>if s=a.text then some r1.length else l.g s,l.c+1⟩ (r1.length+1) r2 with|.error e=>.error e|.ok (r',l')=>.ok ({a with num:=r1.length}::r',l')):=by show _=_;rw[gR];rfl
   cases K:f a.text with
   |some x=>
    have M:=aC.of_below (S:=fun _=>False) ((Below.refl wr.heap.size wr).alloc (Nat.le_refl _) (.cells #[aB x.1,aB x.2] 163))
    have k2:=aC.of_below (S:=fun _=>False) ((Below.refl wr.heap.size wr).alloc (Nat.le_refl _) (.cells #[aB 0,aB 0] 163))
    have O:=((A.nm.th.kept k2 (fun e=>e)).move (w':=(wr.alloc (.cells #[aB 0,aB 0] 163)).drew) rfl).look ⟨a.text.toArray⟩ D
    have X:=((A.lc.kept M (fun e=>e)).move (w':=(wr.alloc (.cells #[aB x.1,aB x.2] 163)).drew.drew) rfl).look ⟨a.text.toArray⟩ D
    have F:f (ByteArray.mk a.text.toArray).data.toList=some x:=K
    rw[F]at Q O
    simp only[Option.getD_some,Option.isSome_some]at Q O
    unfold eW at Q O
    have G:Hid (gR f ⟨fun _=>none,0⟩ 0 B=.error (7,a.at_)):=by show _=_;rw[A.out.eq,P.out,if_pos (.inl (by rw[K];rfl))]
    clear K F M k2
    generalize(l.g (ByteArray.mk a.text.toArray).data.toList)=lg at *
    go_wp2_with fail
    go_region
    all_goals
     go_wp2_with fail
     go_region
     all_goals
      go_wp2_with fail
      refine(cO 7 a.at_ _).mono ?_
      rintro e w2 ⟨⟨Y,rfl,C⟩,J⟩
      replace C:=aG C
      replace J:=aG J
      go_wp2_with fail
      refine⟨rfl,A.kp.below ?_,.inr ⟨7,a.at_,G,Y,rfl,C⟩⟩
      have W:=((Below.refl wr.heap.size wr).alloc (Nat.le_refl _) (.cells #[aB x.1,aB x.2] 163)).drew.drew
      exact W.trans (J.mono (by simp))
   |none=>
    have M:=aC.of_below (S:=fun _=>False) ((Below.refl wr.heap.size wr).alloc (Nat.le_refl _) (.cells #[aB 0,aB 0] 163))
    have O:=((A.nm.th.kept M (fun e=>e)).move (w':=(wr.alloc (.cells #[aB 0,aB 0] 163)).drew) rfl).look ⟨a.text.toArray⟩ D
    have X:=((A.lc.kept M (fun e=>e)).move (w':=(wr.alloc (.cells #[aB 0,aB 0] 163)).drew.drew) rfl).look ⟨a.text.toArray⟩ D
    have F:f (ByteArray.mk a.text.toArray).data.toList=none:=K
    rw[F]at Q O
    simp only[Option.getD_none,Option.isSome_none]at Q O
    unfold eW at Q O
    cases hg:l.g a.text with
    |some m=>
     have E:l.g (ByteArray.mk a.text.toArray).data.toList=some m:=hg
     rw[E]at X
     simp only[Option.getD_some,Option.isSome_some]at X
     have G:Hid (gR f ⟨fun _=>none,0⟩ 0 B=.error (7,a.at_)):=by show _=_;rw[A.out.eq,P.out,if_pos (.inr (by rw[hg];rfl))]
     clear K F hg E M
     go_wp2_with fail
     go_region
     all_goals
      go_wp2_with fail
      go_region
      all_goals
       go_wp2_with fail
       refine(cO 7 a.at_ _).mono ?_
       rintro e w2 ⟨⟨Y,rfl,C⟩,J⟩
       replace C:=aG C
       replace J:=aG J
       go_wp2_with fail
       refine⟨rfl,A.kp.below ?_,.inr ⟨7,a.at_,G,Y,rfl,C⟩⟩
       have W:=((Below.refl wr.heap.size wr).alloc (Nat.le_refl _) (.cells #[aB 0,aB 0] 163)).drew.drew
       exact W.trans (J.mono (by simp))
    |none=>
     have E:l.g (ByteArray.mk a.text.toArray).data.toList=none:=hg
     rw[E]at X
     simp only[Option.getD_none,Option.isSome_none]at X
     have N:¬((f a.text).isSome=true\/(l.g a.text).isSome=true):=by rw[K,hg];simp
     by_cases C:r1.length=3
     ·have a2:((r1.length:Int)==3)=true:=by rw[beq_iff_eq];omega
      have G:Hid (gR f ⟨fun _=>none,0⟩ 0 B=.error (8,a.at_)):=by show _=_;rw[A.out.eq,P.out,if_neg N,if_pos C]
      clear K F hg E M N C
      go_wp2_with fail
      go_region
      all_goals
       go_wp2_with fail
       go_region
       all_goals
        go_wp2_with fail
        refine(cO 8 a.at_ _).mono ?_
        rintro e w2 ⟨⟨Y,rfl,C⟩,J⟩
        replace C:=aG C
        replace J:=aG J
        go_wp2_with fail
        refine⟨rfl,A.kp.below ?_,.inr ⟨8,a.at_,G,Y,rfl,C⟩⟩
        have W:=((Below.refl wr.heap.size wr).alloc (Nat.le_refl _) (.cells #[aB 0,aB 0] 163)).drew.drew
        exact W.trans (J.mono (by simp))
     ·have a2:((r1.length:Int)==3)=false:=by rw[beq_eq_false_iff_ne];omega
      have v:=A.l3
      have a1:=A.cl
      have kk:aC (fun i=>i=g) wr ((me (wr.setCell (Ad g (r1.length*3+2)) (aB r1.length))).drew):=((((((aC.refl (fun i=>i=g) wr).setCell (p:=Ad g (r1.length*3+2)) (.inl rfl) _).alloc _).drew).drew).drew)
      obtain⟨w9,e5,h9,T⟩:=(A.lc.kept kk (fun e=>V e.symm)).add ⟨a.text.toArray⟩ D (by omega) E r1.length (by omega)
      have a4:=aG (A.step V q o u t a0 z K hg C T h9)
      clear K F hg E M N C v a1 kk h9 T
      go_wp2_with fail
      go_region
      all_goals
       go_wp2_with fail
       go_region
       all_goals
        go_wp2_with fail
        go_region
        all_goals
         go_wp2_with fail
         go_roundw
         case rel=>exact⟨_,r1++[{a with num:=r1.length}],r2,by simp,a4,a3⟩
         case measure=>simp[intOf];omega
theorem vg{bn:Nat}{A:Option Addr}(C:w.cell? (Ad a 0)=some (aF b))(B:w.cell? (Ad b 4)=some (.slice A 0 c)):
  Calls Tryz.prog 40 #[Pt bn 0,Pt a 0] w (Ru w (.tuple #[])):=by
 go_in
 go_wp2_with fail
 clear C B
 go_loopw [20] (fun i wr=>i=aB 0/\wr=w) (fun _ _=>0)
 case atStart=>exact⟨rfl,rfl⟩
 case round=>
  obtain⟨rfl,rfl⟩:=hrel
  go_wp2_with fail
  first|go_end0|refine bodyPost_ret (results_none rfl _ _ _) rfl ?_
  exact⟨rfl,rfl⟩
theorem Kf{bn:Nat}{f:aJ->Option (Nat×Nat)}{Q:Nat->Prop}{np:List Nat}{y:Value}(h:NB w bn a b n f Q np y c d)(G:∀t m,dK f t 2=some m->m< np.length)(s:np.length<=1000000):
  Calls Tryz.prog 42 #[Pt bn 0] w fun r w'=>Bw w w'/\((jW f np=true/\r=.returned (.tuple #[]))\/(jW f np=false/\dA w' r 11 0)):=by
 have N:=aG h
 cases A:dK f [109,97,105,110] 2 with
 |none=>
  have M:Hid (jW f np=false):=by show _=_;unfold jW;rw[A]
  have L:Hid (dK f (ByteArray.mk #[109,97,105,110]).data.toList 2=none):=A
  clear A h G
  go_in
  go_wp2_with fail
  refine(pL (kind:=2) ⟨#[109,97,105,110]⟩ (by decide) N.nm.c1 N.th L).mono ?_
  rintro e D ⟨rfl,B⟩
  replace B:=aG B
  go_wp2_with fail
  refine(cO 11 0 D).mono ?_
  rintro e j ⟨⟨S,rfl,J⟩,H⟩
  replace J:=aG J
  replace H:=aG H
  go_wp2_with fail
  exact⟨rfl,B.trans (H.mono B.size),.inr ⟨M,S,rfl,J⟩⟩
 |some m=>
  have u:=G _ _ A
  obtain⟨k,P⟩:∃k,np[m]?=some k:=⟨_,List.getElem?_eq_getElem u⟩
  have M:Hid (jW f np=(k==0)):=by show _=_;unfold jW;rw[A];simp only;rw[P];rw[Bool.eq_iff_iff];simp
  have L:Hid (dK f (ByteArray.mk #[109,97,105,110]).data.toList 2=some m):=A
  obtain⟨pf,x,Y,T⟩:=h.fns.ex
  obtain⟨gf,R,Z,q,v,p,o,l,rfl,X,W,V⟩:=T m k P
  have E:=aG (And.intro Y (And.intro X (And.intro W V)))
  clear A h G T Y X W V p o l P
  go_in
  go_wp2_with fail
  refine(nQ (kind:=2) ⟨#[109,97,105,110]⟩ (by decide) N.nm.c1 N.th L).mono ?_
  rintro e D ⟨rfl,B⟩
  have y0:D.cell? (Ad bn 2)=some (.slice (some (Ad gf 0)) np.length x):=by rw[B.cell (aD E.out.1)];exact E.1
  have i:D.cell? (Ad gf m)=some (aF R):=by rw[B.cell (aD E.out.2.1)];exact E.2.1
  have g:D.cell? (Ad gf (m*1))=some (aF R):=by rw[Nat.mul_one];exact i
  have y2:D.cell? (Ad R 0)=some (aF Z):=by rw[B.cell (aD E.out.2.2.1)];exact E.2.2.1
  have z:D.cell? (Ad Z 4)=some (.slice q k v):=by rw[B.cell (aD E.out.2.2.2)];exact E.2.2.2
  replace B:=aG B
  by_cases C:k=0
  ·have F:¬((k:Int)>0):=by omega
   have O:decide ((k:Int)>0)=false:=decide_eq_false F
   have K:Hid (jW f np=true):=by show _=_;rw[M.out,C];rfl
   clear C
   go_wp2_with fail
   go_end0
   exact⟨B,.inl ⟨K,rfl⟩⟩
  ·have F:((k:Int)>0):=by omega
   have O:decide ((k:Int)>0)=true:=decide_eq_true F
   have K:Hid (jW f np=false):=by show _=_;rw[M.out,beq_eq_false_iff_ne];exact C
   clear C
   go_wp2_with fail
   refine(cO 11 0 D).mono ?_
   rintro e j ⟨⟨S,rfl,J⟩,H⟩
   replace J:=aG J
   replace H:=aG H
   go_wp2_with fail
   exact⟨rfl,B.trans (H.mono B.size),.inr ⟨K,S,rfl,J⟩⟩
structure DL(w:World)(F:Nat->Nat->Prop)(bds:List Nat)(l:List Pd):Prop where
 len:bds.length=l.length
 rep:∀(k b:Nat) (d:Pd),bds[k]?=some b->l[k]?=some d->ko w (F k) b d
def Dj(F:Nat->Nat->Prop):Prop:=∀j k i,F j i->F k i->j=k
theorem DL.of{P:Nat->Prop}{l:List Pd}(h:gC w P L l):∃F,DL w F L l/\Dj F/\∀k i,F k i->P i:=by
 induction h with
 |nil=>exact⟨fun _ _=>False,⟨rfl,fun k b d h=>by simp at h⟩,fun _ _ _ h=>h.elim,fun _ _ h=>h.elim⟩
 |@cons P Q R bs l b p h1 _ hq hr ih=>
  obtain⟨F,H,J,E⟩:=ih
  refine⟨fun k=>match k with|0=>Q|k+1=>F k,⟨by simp[H.len],fun k x d A D=>?_⟩,fun j k i C B=>?_,fun k i G=>?_⟩
  ·cases k with
   |zero=>simp at A D;subst A D;exact h1
   |succ k=>exact H.rep k x d (by simpa using A) (by simpa using D)
  ·cases j with
   |zero=>cases k with
    |zero=>rfl
    |succ k=>exact absurd (E k i B) (hq i C).2
   |succ j=>cases k with
    |zero=>exact absurd (E j i C) (hq i B).2
    |succ k=>exact congrArg (·+1) (J j k i C B)
  ·cases k with
   |zero=>exact(hq i G).1
   |succ k=>exact hr i (E k i G)
theorem DL.keep{w':World}{S:Nat->Prop}{F:Nat->Nat->Prop}{l:List Pd}(h:DL w F L l)(k:aC S w w')(B:∀j i,F j i->i< w.heap.size/\¬S i):DL w' F L l:=
 ⟨h.len,fun j b d D C=>(h.rep j b d D C).keep k (fun i A=>⟨(B j i A).1,(B j i A).2,A⟩)⟩
theorem DL.set{w':World}{S:Nat->Prop}{F:Nat->Nat->Prop}{l:List Pd}(h:DL w F L l)(k:aC S w w'){d:Pd}(E:L[m]?=some b)(H:ko w' (F m) b d)(G:∀j i,j≠m->F j i->i< w.heap.size/\¬S i):DL w' F L (l.set m d):=by
 refine⟨by simp[h.len],fun j x y B A=>?_⟩
 by_cases e:j=m
 ·subst e
  have C:j< l.length:=by have:=(List.getElem?_eq_some_iff.1 E).1;rw[h.len]at this;exact this
  rw[List.getElem?_set_self C]at A
  rw[E]at B
  cases B;cases A
  exact H
 ·rw[List.getElem?_set_ne (fun x=>e x.symm)]at A
  exact(h.rep j x y B A).keep k (fun i D=>⟨(G j i e D).1,(G j i e D).2,D⟩)
theorem rR(l:List Pd)(d:Pd):∀n,eA n (l++[d])=eA n l++(if d.kind=2 then[n+l.length]else[]):=by
 induction l with
 |nil=>intro n;simp[eA]
 |cons a l ih=>
  intro n
  simp only[List.cons_append,eA]
  rw[ih]
  have e:n+1+l.length=n+(a::l).length:=by simp;omega
  split
  ·rw[List.cons_append,e]
  ·rw[e]
theorem EN(l:List Pd):∀(n m k:Nat),(eA n l)[m]?=some k->n<=k/\∃d,l[k-n]?=some d/\d.kind=2/\(jr l)[m]?=some d.params.length:=by
 induction l with
 |nil=>intro n m k h;simp[eA]at h
 |cons a l ih=>
  intro n m k h
  unfold eA at h
  by_cases e:a.kind=2
  ·rw[if_pos e]at h
   have A:jr (a::l)=a.params.length::jr l:=by unfold jr;rw[List.filter_cons,if_pos (by rw[e];rfl)];rfl
   cases m with
   |zero=>simp at h;subst h;exact⟨Nat.le_refl _,a,by simp,e,by rw[A];rfl⟩
   |succ m=>
    obtain⟨E,d,D,C,B⟩:=ih _ _ _ (by simpa using h)
    exact⟨by omega,d,by rw[show k-n=(k-(n+1))+1 by omega];simpa using D,C,by rw[A];simpa using B⟩
  ·rw[if_neg e]at h
   have A:jr (a::l)=jr l:=by unfold jr;rw[List.filter_cons,if_neg (by simpa using e)]
   obtain⟨E,d,D,C,B⟩:=ih _ _ _ h
   exact⟨by omega,d,by rw[show k-n=(k-(n+1))+1 by omega];simpa using D,C,by rw[A];exact B⟩
theorem mZ(l:List Pd):∀n,(eA n l).length=(jr l).length:=by
 induction l with
 |nil=>intro n;rfl
 |cons a l ih=>
  intro n
  unfold eA
  by_cases e:a.kind=2
  ·have A:jr (a::l)=a.params.length::jr l:=by unfold jr;rw[List.filter_cons,if_pos (by rw[e];rfl)];rfl
   rw[if_pos e,A,List.length_cons,List.length_cons,ih]
  ·have A:jr (a::l)=jr l:=by unfold jr;rw[List.filter_cons,if_neg (by simpa using e)]
   rw[if_neg e,A,ih]
structure Fn where
 bf:Nat
 bl:Nat
 bd:Nat
def qm(fs:List Fn):List Nat:=fs.flatMap (fun x=>[x.bf,x.bl])
theorem vA(fs:List Fn)(x:Fn):qm (fs++[x])=qm fs++[x.bf,x.bl]:=by simp[qm]
structure FL(w:World)(B:Nat)(bds:List Nat)(ks:List Nat)(fs:List Fn)(fv:Value):Prop where
 own:w.ownsRow B 114 1 fv fs.length (fg (fs.map (·.bf)))
 blk:∀x∈fs,aM w x.bf #[aF x.bd,.map (some x.bl)]
 nd:(qm fs).Nodup
 ge:∀i∈qm fs,B<=i/\i< w.heap.size/\fv.ownBlock≠some i
 len:ks.length=fs.length
 at_:∀(j k:Nat) (x:Fn),ks[j]?=some k->fs[j]?=some x->bds[k]?=some x.bd
theorem FL.keep{w':World}{S:Nat->Prop}{B:Nat}{l:List Nat}{fs:List Fn}{y:Value}(h:FL w B l L fs y)(k:aC S w w')(E:∀x∈fs,¬S x.bf)(D:∀i,y.ownBlock=some i->¬S i):FL w' B l L fs y:=
 ⟨bJ h.own k D,fun x C=>(h.blk x C).kept k (E x C),h.nd,fun i A=>⟨(h.ge i A).1,Nat.lt_of_lt_of_le (h.ge i A).2.1 k.size,(h.ge i A).2.2⟩,h.len,h.at_⟩
theorem eD{fs:List Fn}{x:Fn}(h:x∈fs):x.bf∈qm fs/\x.bl∈qm fs:=by
 unfold qm
 constructor<;>exact List.mem_flatMap.2 ⟨x,h,by simp⟩
section
def CO(c:Nat->Nat):Array Value:=#[.int .i64 (c 0),.int .i64 (c 1),.int .i64 (c 2)]
abbrev Kg:Array Value:=#[.int .i64 5,.int .i64 3,.int .i64 5]
abbrev Jd(bn bm:Nat)(F:Nat->Nat->Prop):Nat->Prop:=fun i=>i=bn\/i=bm\/∃k,F k i
structure DF(w:World)(bn bm bc bk:Nat)(F:Nat->Nat->Prop):Prop where
 nm:bn≠bm
 dj:Dj F
 fo:∀k i,F k i->i< w.heap.size/\i≠bn/\i≠bm
 nl:bn< w.heap.size
 ml:bm< w.heap.size
 cl:w.heap.size<=bc
 ck:bc< bk
structure DI(w wr:World)(bn bm bp bc bk:Nat)(F:Nat->Nat->Prop)(bds:List Nat)(R:Except (Nat×Nat) (List Pd×(aJ->Option (Nat×Nat))×(Nat->Nat)))(done rest:List Pd)(f:aJ->Option (Nat×Nat))(c:Nat->Nat)(ks:List Nat)(fs:List Fn)(fv:Value):Prop where
 nb:aM wr bn (yO bp bm fv 0 0)
 th:ei wr bm done.length f
 cb:aM wr bc (CO c)
 mb:aM wr bk Kg
 dl:DL wr F bds (done++rest)
 fl:FL wr (bk+1) bds ks fs fv
 lc:∀x∈fs,eP wr x.bl 0 (fun _=>none)
 eq:R=match dI f c rest with|.error e=>.error e|.ok (l',f',c')=>.ok (done++l',f',c')
 kp:aC (Jd bn bm F) w wr
 cl:∀j,j< 3->c j<=kR j
 kd:∀d∈rest,d.kind< 3/\d.name.length<=1000000
theorem CN(c:Nat->Nat)(k:Nat)(A:k< 3)(z:Int)(e:z=(c k:Int)+1):(CO c).setIfInBounds k (aB z)=CO (qd c k):=by
 subst e
 have:k=0\/k=1\/k=2:=by omega
 rcases this with rfl|rfl|rfl<;>simp[CO,qd]
theorem ko.num{w':World}{P S:Nat->Prop}{d:Pd}(h:ko w P b d)(k:aC S w w')(D:∀i,P i->i< w.heap.size/\(S i->i=b))(G:∀A:Array Value,aM w b A->3< A.size->aM w' b (A.setIfInBounds 3 (aB m))):ko w' P b {d with num:=m}:=by
 obtain⟨sp,sb,L,Q,K,J,F,E,H,B⟩:=h
 exact⟨sp,sb,L,Q,K,G _ J (show 3< 7 by decide),⟨bJ F.1 k (fun i e x=>B.rb (by rw[e,(D i (F.2 i e)).2 x])),F.2⟩,⟨bJ E.1 k (fun i e x=>B.bb (by rw[e,(D i (E.2 i e)).2 x])),E.2⟩,H.keep k (fun i C=>⟨(D i (B.q i C).1).1,fun x=>(B.q i C).2.1 ((D i (B.q i C).1).2 x),C⟩),B⟩
section
variable {w wr:World} {bn bm bp bc bk:Nat} {F:Nat->Nat->Prop} {bds:List Nat} {R:Except (Nat×Nat) (List Pd×(aJ->Option (Nat×Nat))×(Nat->Nat))} {done rest:List Pd} {f:aJ->Option (Nat×Nat)} {c:Nat->Nat} {ks:List Nat} {fs:List Fn} {fv:Value}
theorem DI.mid{v:World}{d:Pd}(h:DI w wr bn bm bp bc bk F bds R done (d::rest) f c ks fs fv)(g:DF w bn bm bc bk F)(J:bds[done.length]?=some a)(s:f d.name=none)(t:c d.kind≠kR d.kind)
  (W:((me (wr.setCell ⟨a,3,none⟩ (.int .i64 (c d.kind)))).drew).mapTurned v bm) (u:ei v bm (done.length+1) (putF f d.name (d.kind,c d.kind))) (z:Int) (o:z=(c d.kind:Int)+1):
  DI w (v.setCell ⟨bc,d.kind,none⟩ (.int .i64 z)) bn bm bp bc bk F bds R (done++[{d with num:=c d.kind}]) rest (putF f d.name (d.kind,c d.kind)) (qd c d.kind) ks fs fv:=by
 have M:=(h.kd d (by simp)).1
 have D:=h.dl.rep done.length a d J (by simp)
 have C:F done.length a:=by obtain⟨_,_,_,_,S,_⟩:=D;exact S
 have H:=g.fo _ _ C
 have n:aC (fun i=>i=a) wr (me (wr.setCell (Ad a 3) (aB (c d.kind)))):=(((((aC.refl (fun i=>i=a) wr).setCell (p:=Ad a 3) (.inl rfl) _).alloc _).drew).drew)
 have V:aC (fun i=>i=a\/i=bm) wr v:=aC.grown ((n.mono (T:=fun i=>i=a\/i=bm) (fun _ e=>.inl e)).drew) W.grown (fun k N=>by cases N;exact .inl (.inr rfl))
 have m:aC (fun i=>i=bm) (wr.setCell (Ad a 3) (aB (c d.kind))) v:=aC.grown (((((aC.refl (fun i=>i=bm) _).alloc _).drew).drew).drew) W.grown (fun k N=>by cases N;exact .inl rfl)
 have B:aC (fun i=>i=a\/i=bm\/i=bc) wr (v.setCell (Ad bc d.kind) (aB z)):=(V.mono (T:=fun i=>i=a\/i=bm\/i=bc) (fun i e=>e.elim .inl (fun e=>.inr (.inl e)))).setCell (p:=Ad bc d.kind) (.inl (.inr (.inr rfl))) _
 have X:=g.nl
 have Y:=g.ml
 have Z:=g.cl
 have b:=g.ck
 have q:=h.kp.size
 have Q:∀i,(i=a\/i=bm\/i=bc)->i< bk+1:=fun i e=>by omega
 have L:=h.dl.len
 simp at L
 refine⟨h.nb.kept B (fun e=>by rcases e with e|e|e;exact H.2.1 e.symm;exact g.nm e;omega),?_,?_,h.mb.kept B (fun e=>by rcases e with e|e|e<;>omega),?_,h.fl.keep B (fun x E e=>?_) (fun i e x=>?_),fun x E=>(h.lc x E).kept B (fun e=>?_),?_,?_,fun j K=>?_,fun x E=>h.kd x (by simp[E])⟩
 ·simp only[List.length_append,List.length_singleton]
  exact u.kept ((aC.refl (aK bc) v).set1 d.kind _) (fun e=>by have:bm=bc:=e;omega)
 ·have S:aM v bc (CO c):=h.cb.kept V (fun e=>by rcases e with e|e<;>omega)
  have l:=S.set d.kind (aB z) (show d.kind< 3 by omega)
  rw[CN c d.kind M z o]at l
  exact l
 ·have P:ko (v.setCell (Ad bc d.kind) (aB z)) (F done.length) a {d with num:=c d.kind}:=by
   refine D.num B (fun i G=>⟨by have:=(g.fo _ i G).1;omega,fun e=>?_⟩) (fun A y r=>?_)
   ·have:=g.fo _ i G
    rcases e with e|e|e
    ·exact e
    ·exact absurd e this.2.2
    ·omega
   ·exact((y.set 3 _ r).kept m H.2.2).setO bc d.kind _ (by omega)
  have:=h.dl.set B J P (fun j i K G=>by
   have O:=g.fo j i G
   refine⟨by omega,fun e=>?_⟩
   rcases e with e|e|e
   ·subst e;exact K (g.dj j _ _ G C)
   ·exact O.2.2 e
   ·omega)
  rw[List.set_append_right _ _ (by omega)]at this
  simpa using this
 ·have:=(h.fl.ge x.bf (eD E).1).1
  have:=Q _ e
  omega
 ·have:=(h.fl.own.lt i e).1
  have:=Q _ x
  omega
 ·have:=(h.fl.ge x.bl (eD E).2).1
  have:=Q _ e
  omega
 ·rw[h.eq,dI,if_neg (by rw[s];simp),if_neg t]
  cases dI (putF f d.name (d.kind,c d.kind)) (qd c d.kind) rest with
  |error e=>rfl
  |ok x=>simp
 ·refine h.kp.trans' B (fun i e=>?_)
  rcases e with e|e|e
  ·exact .inl (.inr (.inr ⟨_,e▸C⟩))
  ·exact .inl (.inr (.inl e))
  ·exact .inr (by omega)
 ·unfold qd
  have:=h.cl j K
  split
  ·rename_i e;subst e;have:=h.cl _ K;omega
  ·exact this
theorem DI.fun{v:World}{C:Option Addr}{o:Nat}{d:Pd}(h:DI w wr bn bm bp bc bk F bds R (done++[d]) rest f c ks fs fv)(g:DF w bn bm bc bk F)(N:bds[m]?=some n)(k:aC (fun i=>fv.ownBlock=some i) (((wr.alloc (.map #[] 0)).alloc (.cells #[aF n,.map (some wr.heap.size)] 125)).alloc (.cells #[aF (wr.heap.size+1)] 114)) v)
  (own:v.ownsRow (bk+1) 114 1 (.slice C (fs.length+1) o) (fs.length+1) (fg (fs.map (·.bf))++[aF (wr.heap.size+1)])) (J:Value.ownBlock (.slice C (fs.length+1) o)=fv.ownBlock\/∃q,Value.ownBlock (.slice C (fs.length+1) o)=some q/\wr.heap.size+2<=q):
  DI w (v.setCell ⟨bn,2,none⟩ (.slice C (fs.length+1) o)) bn bm bp bc bk F bds R (done++[d]) rest f c (ks++[m]) (fs++[⟨wr.heap.size+1,wr.heap.size,n⟩]) (.slice C (fs.length+1) o):=by
 have Q:=g.nl
 have V:=g.ml
 have W:=g.cl
 have X:=g.ck
 have Y:=h.kp.size
 have r:=h.mb.lt
 have P:aC (fun i=>fv.ownBlock=some i) wr v:=((((aC.refl (fun i=>fv.ownBlock=some i) wr).alloc _).alloc _).alloc _).trans k
 have G:aC (fun i=>i=bn\/fv.ownBlock=some i) wr (v.setCell (Ad bn 2) (.slice C (fs.length+1) o)):=(P.mono (T:=fun i=>i=bn\/fv.ownBlock=some i) (fun i e=>.inr e)).setCell (p:=Ad bn 2) (.inl (.inl rfl)) _
 have B:∀i,fv.ownBlock=some i->bk+1<=i/\i< wr.heap.size:=fun i e=>h.fl.own.lt i e
 have D:∀i,i< bk+1->i≠bn->¬(i=bn\/fv.ownBlock=some i):=fun i E l e=>by
  rcases e with e|e
  ·exact l e
  ·have:=(B i e).1;omega
 have Z:wr.heap.size+3<=v.heap.size:=by have:=k.size;simpa using this
 have L:(v.setCell (Ad bn 2) (.slice C (fs.length+1) o)).heap.size=v.heap.size:=by simp[World.setCell]
 have O:aM (v.setCell (Ad bn 2) (.slice C (fs.length+1) o)) (wr.heap.size+1) #[aF n,.map (some wr.heap.size)]:=by
  have K:aM ((wr.alloc (.map #[] 0)).alloc (.cells #[aF n,.map (some wr.heap.size)] 125)) (wr.heap.size+1) #[aF n,.map (some wr.heap.size)]:=aM.newAt _ _ _ _ (by simp)
  exact((K.alloc _).kept k (fun e=>by have:=(B _ e).2;omega)).setO bn 2 _ (by omega)
 have M:eP (v.setCell (Ad bn 2) (.slice C (fs.length+1) o)) wr.heap.size 0 (fun _=>none):=by
  have K:=eP.made wr
  have u:=K.kept (S:=fun i=>fv.ownBlock=some i) ((((aC.refl _ _).alloc (.cells #[aF n,.map (some wr.heap.size)] 125)).alloc (.cells #[aF (wr.heap.size+1)] 114)).trans k) (fun e=>by have:=(B _ e).2;omega)
  exact u.kept ((aC.refl (aK bn) v).set1 2 _) (fun e=>by have:wr.heap.size=bn:=e;omega)
 refine⟨?_,h.th.kept G (D _ (by omega) (fun e=>g.nm e.symm)),h.cb.kept G (D _ (by omega) (by omega)),h.mb.kept G (D _ (by omega) (by omega)),h.dl.keep G (fun j i E=>?_),⟨?_,?_,?_,?_,by simp[h.fl.len],?_⟩,?_,h.eq,?_,h.cl,h.kd⟩
 ·exact(h.nb.kept P (fun e=>by have:=(B _ e).1;omega)).set 2 _ (show 2< 5 by decide)
 ·have:=g.fo j i E
  exact⟨by omega,D i (by omega) this.2.1⟩
 ·have:=bZ (b:=bn) own 2 (.slice C (fs.length+1) o) (by omega)
  simpa[fg]using this
 ·intro x A
  rcases List.mem_append.1 A with A|A
  ·refine(h.fl.blk x A).kept G (fun e=>?_)
   have:=h.fl.ge _ (eD A).1
   rcases e with e|e
   ·omega
   ·exact this.2.2 e
  ·simp at A;subst A;exact O
 ·rw[vA]
  rw[List.nodup_append]
  refine⟨h.fl.nd,by simp,fun a t b s e=>?_⟩
  have:=(h.fl.ge a t).2.1
  simp at s
  omega
 ·intro i E
  rw[vA]at E
  rw[L]
  rcases List.mem_append.1 E with E|E
  ·have:=h.fl.ge i E
   refine⟨this.1,by omega,fun e=>?_⟩
   rcases J with x|⟨q,x,y⟩
   ·rw[x]at e;exact this.2.2 e
   ·rw[x]at e;simp at e;omega
  ·simp at E
   refine⟨by omega,by omega,fun e=>?_⟩
   rcases J with x|⟨q,x,y⟩
   ·rw[x]at e;have:=(B i e).2;omega
   ·rw[x]at e;simp at e;omega
 ·intro j k x H A
  by_cases e:j< ks.length
  ·rw[List.getElem?_append_left e]at H
   rw[List.getElem?_append_left (by rw[<-h.fl.len];exact e)]at A
   exact h.fl.at_ j k x H A
  ·rw[List.getElem?_append_right (by omega)]at H
   rw[List.getElem?_append_right (by have:=h.fl.len;omega)]at A
   have K:=(List.getElem?_eq_some_iff.1 H).1
   simp at K
   have e1:j-ks.length=0:=by omega
   have z:j-fs.length=0:=by have:=h.fl.len;omega
   rw[e1]at H
   rw[z]at A
   simp at H A
   subst H A
   exact N
 ·intro x A
  rcases List.mem_append.1 A with A|A
  ·refine(h.lc x A).kept G (fun e=>?_)
   have:=h.fl.ge _ (eD A).2
   rcases e with e|e
   ·omega
   ·exact this.2.2 e
  ·simp at A;subst A;exact M
 ·exact h.kp.trans' G (fun i e=>by
   rcases e with e|e
   ·exact .inl (.inl e)
   ·exact .inr (by have:=(B i e).1;omega))
end
end
end Go.Proofs.YtajfbbldaiaolaaGreatDoor
