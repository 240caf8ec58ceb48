import Derived.Test.YtajfbbldaiaolaaGreatDoorQ11
set_option linter.unusedSimpArgs false
set_option linter.unusedVariables false
set_option maxRecDepth 100000
set_option maxHeartbeats 40000000
namespace Go.Proofs.YtajfbbldaiaolaaGreatDoor
open Go.RowKit Go.Maps Go.Shelf
section
section
variable {w:World} {y:Pg} {m0:Ms} {s:ByteArray} {R1 R2:World->Nat->Prop}
theorem Jq(k:Nat):Int.tmod (k:Int) 3=((k%3:Nat):Int):=by
 rw[Int.tmod_eq_emod_of_nonneg (by omega)];omega
theorem DV{j k q:Nat}{m x:Ms}{l:List Ms}(h:uB y (j+1) k (m::l)=true)(D:q=bif Nat.beq (k%3) 0 then(m::l).length-1 else 0)(B:(m::l)[q]?=some x):Dt y x=true/\(m::l).length<=3000/\∃r,pA y x (wz y x)=some r/\uB y j (k+1) (((m::l).set q ((m::l).getLastD m)).dropLast++r)=true:=by
 have e:(m::l).getD q m=x:=by rw[List.getD_eq_getElem?_getD,B];rfl
 unfold uB at h
 simp only[<-D,e]at h
 cases A:Dt y x&&Nat.ble (m::l).length 3000 with
 |false=>rw[A]at h;cases h
 |true=>
  rw[A]at h
  simp only[cond_true]at h
  simp only[Bool.and_eq_true]at A
  refine⟨A.1,Nat.le_of_ble_eq_true A.2,?_⟩
  split at h
  ·cases h
  ·rename_i r C
   exact⟨r,C,h⟩
theorem IB(H1:Ca 7 #[.string s] w fun q w1=>∃bP,q=.returned (.tuple #[aF bP,aB 0,aB 0])/\R1 w1 bP)(H2:∀w1 bP,R1 w1 bP->Ca 8 #[aF bP] w1 fun q w2=>∃rv,q=.returned rv/\R2 w2 bP)
  (H3:∀w2 bP,R2 w2 bP->Ca 15 #[aF bP] w2 fun q F=>∃b B d,q=.returned (aF b)/\mF F 0 B d b y m0/\B<=F.heap.size/\Below w.heap.size w F) (hs:uB y 400 0 [m0]=true):
  Calls Tryz.prog 10 #[.string s] w (Rt w (.bool true)):=by
 obtain⟨i0,hi,ai,ah,ag⟩:=pZ vU
 have c1:=aG H1
 have c0:=aG H2
 have bz:=aG H3
 have HS:=aG hs
 clear H1 H2 H3 hs
 go_in
 go_wp2_with fail
 refine c1.mono ?_
 rintro q w1 ⟨bP,rfl,aw⟩
 have c3:=aG (c0 w1 bP aw)
 clear aw
 go_wp2_with fail
 refine c3.mono ?_
 rintro q w2 ⟨rv,rfl,au⟩
 have c2:=aG (bz w2 bP au)
 clear au
 go_wp2_with fail
 refine c2.mono ?_
 rintro q F ⟨b,B,d,rfl,o,hB,kw⟩
 have HM:=aG o
 have bd:=aG kw
 clear o kw
 go_wp2_with (at_builtin;refine bE rfl _ _ 50 rfl F.heap.size 51 i0 (.pointer none) 1 8 Tryz.underlying50 hi ai ah ag rfl (by decide) _ _ _ rfl (World.ownsRow_nil _ _ _ _) (Ad F.heap.size 0) 1 1 [aF b] rfl rfl (cF _ _ _ _ (by simp)) (by intro u hu;simp at hu;subst hu;rfl) (by decide) (by unfold maxLen;omega) (by omega) (by simp) ?_;intro l4 w4 C A _)
 have ar:mC F F.heap.size B d y (.slice none 0 0) [] []:=⟨⟨rfl,.inl ⟨rfl,rfl⟩⟩,rfl,fun k bp m e=>by simp at e⟩
 have HT:Hid (mC w4 F.heap.size B d y l4 [b] [m0]):=ar.push hB C A HM
 have be:Hid (Below F.heap.size F w4):=aC.to_below (((aC.refl (fun _=>False) F).alloc _).grown A (fun k e=>by cases e))
 obtain⟨p4,c4,rfl⟩:=aI C
 clear C A ar
 go_wp2_with fail
 obtain⟨T,a9⟩:=bM F.heap.size
 rw[<-a9]at hB HT be
 have bg:Hid (∀X,Below T F X->Below w.heap.size w X):=fun X k=>bd.trans (k.mono (by rw[a9];exact bd.size))
 have ch:T<=F.heap.size:=by omega
 clear a9
 go_loopw [9,7] (fun i v wr=>∃k a,i=aB ((k:Nat):Int)/\k<=400/\Hid (∃p c,v=.slice p (a:List Ms).length c)/\Hid (uB y (400-k) k a=true)/\Hid (∃O,mC wr T B d y v O a)/\Hid (Below T F wr)) (fun i _ _=>400-(intOf i).toNat)
 case atStart=>exact⟨0,[m0],rfl,by omega,⟨_,_,rfl⟩,HS,⟨_,HT⟩,be⟩
 case round=>
  obtain⟨k,a,rfl,hk,HV,ac,ay,HB⟩:=hrel
  obtain⟨p7,c7,rfl⟩:=HV.out
  by_cases cd:k=400
  ·have bj:¬((k:Int)< 400):=by omega
   go_wp2_with fail
   go_ret
   exact⟨rfl,bg _ HB⟩
  ·have bj:((k:Int)< 400):=by omega
   cases a with
   |nil=>
    go_wp2_with fail
    go_ret
    exact⟨rfl,bg _ HB⟩
   |cons m l=>
    obtain⟨a,K⟩:=bM (m::l)
    obtain⟨n,z⟩:∃n,a.length=n+1:=⟨l.length,by rw[K];rfl⟩
    obtain⟨O,P⟩:=ay.out
    rw[<-K]at P ac⊢
    rw[z]at P⊢
    obtain⟨g,cc,bk⟩:=aO P.row (by omega)
    injection bk with e1 e2 e3
    subst e1
    subst e3
    obtain⟨r3,a3⟩:∃r3,k%3=r3:=⟨_,rfl⟩
    have bi:=Jq k
    rw[a3]at bi
    have c6:r3< 3:=by omega
    obtain⟨q,hq⟩:=bM (bif Nat.beq r3 0 then n else 0)
    have bh:q<=n:=by rw[hq];cases Nat.beq r3 0<;>simp
    obtain⟨bq,a6⟩:∃bq,O[q]?=some bq:=⟨_,List.getElem?_eq_getElem (by have:=P.len;omega)⟩
    obtain⟨bl,a7⟩:∃bl,O[n]?=some bl:=⟨_,List.getElem?_eq_getElem (by have:=P.len;omega)⟩
    obtain⟨x,hx⟩:∃x,a[q]?=some x:=⟨_,List.getElem?_eq_getElem (by omega)⟩
    obtain⟨j,hj⟩:∃j,400-k=j+1:=⟨400-k-1,by omega⟩
    have G:=ac.out
    rw[hj,K]at G
    obtain⟨o1,o2,r,o3,o4⟩:=DV (x:=x) (q:=q) G (by rw[hq,<-a3,<-K,z];rfl) (by rw[<-K];exact hx)
    rw[<-K]at o2 o4
    have b9:=aG (And.intro o1 (And.intro o3 (And.intro o4 hj)))
    have cb:n+1<=3000:=by omega
    clear G o1 o2 o3 o4 hj
    have a1:Ce wr g q (aF bq):=cZ (z▸P.row) (by simp[du,a6])
    have a2:Ce wr g n (aF bl):=cZ (z▸P.row) (by simp[du,a7])
    have az:wr.frozen? (Ad g q)=false:=xk (z▸P.row) q
    obtain⟨W1,f⟩:=bM (wr.setCell (Ad g q) (Pt bl 0))
    have h:=P.pop (m0:=m) z hB bh a7
    rw[show aF bl=Pt bl 0 from rfl,<-f]at h
    have b1:(0:Int)<=q:=by omega
    have b2:(q:Int)< ((n+1:Nat):Int):=by omega
    have b4:(0:Int)<=n:=by omega
    have b5:(n:Int)< ((n+1:Nat):Int):=by omega
    have b6:(0:Int)< ((n+1:Nat):Int):=by omega
    have cf:=aD a1
    have b7:(n:Int)<=c7:=by have:=sY (z▸P.row);omega
    obtain⟨D,H⟩:=bM (a.set q (a.getLastD m)).dropLast
    have ak:D.length=n:=by rw[H];simp[z]
    rw[<-H]at h
    have W:aC (aK g) wr W1:=by rw[f];exact(aC.refl _ _).set1 q _
    have ap:=kN P.row (show aT (.slice (some (Ad g 0)) (n+1) c7) g from rfl)
    have aa:=(P.at_ q bq x a6 hx).typ W (fun b e=>by have e:b=g:=e;subst e;exact⟨by omega,ap.2⟩)
    have af:Below T F W1:=HB.trans ⟨W.os,W.tape,W.output,W.size,fun b hb=>W.block b (by have:=HB.size;omega) (fun e=>by have e:b=g:=e;omega)⟩
    obtain⟨ok,aj,G,hj⟩:=b9.out
    rw[<-H]at G
    obtain⟨J,N⟩:=wR aj
    obtain⟨M,o⟩:∃M,(wz y x).length=M:=⟨_,rfl⟩
    have bn:M< 100:=by
     obtain⟨-,o2,-⟩:=tg ok
     rw[<-o]
     unfold wz gE
     exact Nat.lt_of_le_of_lt (Nat.le_trans (List.length_filter_le _ _) (by simp)) o2
    have b8:=aG (aa.ready ok)
    rw[o]at b8 J
    have R:=aG (And.intro aa (And.intro af (And.intro ok (And.intro G (And.intro hj (And.intro N (And.intro J o)))))))
    clear aa af ok aj G hj N ap W H J o b9 ac
    have cj:=aG K
    have bs:=aG h
    have bo:=aG f
    have ci:=aG P
    clear h f P K e2 HV ay
    clear a3
    cases r3
    all_goals
     simp only[Nat.beq_refl,show∀n,Nat.beq (n+1) 0=false from fun _=>rfl,cond_true,cond_false]at hq
     have hq:=hq.symm
     subst hq
     (try(have bm:bq=bl:=Option.some.inj (a6.symm.trans a7);subst bm))
     (try have c9:((((‹Nat›:Nat)+1:Nat):Int)==0)=false:=by simp;omega)
     go_wp2_with fail
     rw[<-bo.out]
     refine b8.mono ?_
     rintro q V ⟨av,rfl,aq,kV⟩
     obtain⟨pa,ca,rfl⟩:=aI aq
     have ad:=aG kV
     clear aq kV
     go_wp2_with fail
     go_loopw [12,7] (fun i v a0=>∃E:Nat,i=aB E/\E<=M/\Hid (∃p c,v=.slice p (n+E) c)/\Hid (∃O,mC a0 T B d y v O (D++r.take E))/\Hid (mF a0 0 B d bq y x)/\Hid (Below T F a0)) (fun i _ _=>M-(intOf i).toNat)
     case atStart=>exact⟨0,rfl,by omega,⟨_,_,rfl⟩,⟨_,by rw[List.take_zero,List.append_nil];exact bs.below ad⟩,R.1.below ad,R.2.1.trans (ad.mono (by have:=R.2.1.size;omega))⟩
     case round=>
      obtain⟨E,rfl,ce,br,b3,bb,ae⟩:=hrel
      obtain⟨p8,c8,rfl⟩:=br
      by_cases a4:E=M
      ·have an:¬((E:Int)< (M:Int)):=by omega
       obtain⟨Z,Q⟩:=b3.out
       have hF:(D++r).length=n+E/\uB y (400-(k+1)) (k+1) (D++r)=true/\mC wr T B d y (.slice p8 (n+E) c8) Z (D++r):=by
        obtain⟨-,-,-,G,hj,-,J,-⟩:=R.out
        rw[List.take_of_length_le (by omega)]at Q
        exact⟨by rw[List.length_append,ak,J,a4],by rw[show 400-(k+1)=j by omega];exact G,Q⟩
       have HF:=aG hF
       clear hF Q
       go_wp2_with fail
       exact⟨⟨u2,.slice p8 (n+M) c8,aF bq,aB ((k:Int)+1),⟨k+1,by simp,by omega,D++r,⟨p8,c8,by rw[HF.out.1,a4]⟩,HF.2.1,⟨Z,a4▸HF.2.2⟩⟩,rfl,rfl,rfl,rfl⟩,by simp[intOf];omega⟩
      ·have an:(E:Int)< (M:Int):=by omega
       obtain⟨Z,Q⟩:=b3.out
       obtain⟨-,-,ok,-,-,N,J,o⟩:=R.out
       obtain⟨i2,a5⟩:∃i2,(wz y x)[E]?=some i2:=⟨_,List.getElem?_eq_getElem (by omega)⟩
       obtain⟨m2,am,al⟩:=N E i2 a5
       have HC:=aG (bb.copy ok)
       have b0:=aG Q
       have HX:=aG (And.intro ok (And.intro a5 (And.intro am al)))
       clear Q ok N J o a5 am al
       go_wp2_with fail
       refine HC.mono ?_
       rintro q X1 ⟨b',rfl,-,ax,W⟩
       have bt:=aG (ax.step W.size HX.1 HX.2.1 HX.2.2.1)
       have bx:=aG W
       clear ax W
       go_wp2_with fail
       refine bt.mono ?_
       rintro q X2 ⟨ev,rfl,ab,k2⟩
       have bu:=aG ab.pairs
       have bw:=aG ab
       have bf:Hid (Below wr.heap.size wr X2):=bx.trans k2
       clear ab k2
       go_wp2_with fail
       refine bu.mono ?_
       rintro q X3 ⟨rfl,k3⟩
       have bv:=aG (bw.below k3)
       have t:Hid (Below wr.heap.size wr X3):=bf.trans (k3.mono bf.size)
       clear k3
       go_wp2_with fail
       refine(zo X3 rv).mono ?_
       rintro q X4 ⟨rfl,cg⟩
       subst X4
       have a8:=b0.below t
       have ao:(D++r.take E).length=n+E:=by
        obtain⟨-,-,-,-,-,-,J,-⟩:=R.out
        rw[List.length_append,ak,List.length_take,J];omega
       have L:=a8.row
       rw[ao]at L
       have c5:T<=X3.heap.size:=by have:=ae.size;have:=t.size;omega
       go_wp2_with (at_builtin;refine bE rfl _ _ 50 rfl T 51 i0 (.pointer none) 1 8 Tryz.underlying50 hi ai ah ag rfl (by decide) _ _ _ rfl (L.alloc _) (Ad X3.heap.size 0) 1 1 [aF b'] rfl rfl (cF _ _ _ _ (by simp)) (by intro u hu;simp at hu;subst hu;rfl) (by decide) (by unfold maxLen;omega) (by omega) (by simp;omega) ?_;intro l4 w5 C A _)
       have HN:Hid ((∃p c,l4=.slice p (n+(E+1)) c)/\(∃O,mC w5 T B d y l4 O (D++r.take (E+1)))/\mF w5 0 B d bq y x/\Below T F w5):=by
        have hp:=a8.push hB (by rw[ao];exact C) A bv
        have e:r.take (E+1)=r.take E++[m2]:=by rw[List.take_add_one,HX.out.2.2.2];rfl
        have kA:Below X3.heap.size X3 (X3.alloc (.cells #[aF b'] 51)):=ba _ _
        have kg:=ef (S:=fun b=>aT (.slice p8 (n+E) c8) b) A (fun i e=>e)
        refine⟨aI C,⟨_,by rw[e,<-List.append_assoc];exact hp⟩,?_,?_⟩
        ·exact((bb.below t).below kA).typ kg (fun b e=>by obtain⟨h1,h2⟩:=kN (aP L kA) e;exact⟨by omega,h2⟩)
        ·have Y:aC (fun b=>aT (.slice p8 (n+E) c8) b) wr w5:=((aC.of_below t).trans (aC.of_below kA)).trans kg
         exact ae.trans ⟨Y.os,Y.tape,Y.output,Y.size,fun b hb=>Y.block b (by have:=ae.size;omega) (fun e=>by have:=(kN L e).1;omega)⟩
       clear L C A a8
       go_wp2_with fail
       go_roundw
       case rel=>exact⟨E+1,by go_num,by omega,HN⟩
       case measure=>simp[intOf];omega
end
end
section
theorem Hx(p:Int):fD (pS p)=Du:=Od.ext' (fun x=>by
 show(if x.1=0 then gN (gL (fun k=>([[]]:List (List Nat)).getD k []) x.2)else if x.1=1 then gN (gL (fun k=>(nJ [] k).getD []) x.2)else fun _=>0)=fun _=>0
 have g:∀l:List Nat,l=[]->gN l=fun _=>0:=fun l h=>by subst h;funext z;cases z<;>rfl
 split
 ·refine g _ ?_
  match x.2 with
  |.ofNat 0=>rfl
  |.ofNat (n+1)=>rfl
  |.negSucc n=>rfl
 ·split
  ·refine g _ ?_
   match x.2 with
   |.ofNat n=>rfl
   |.negSucc n=>rfl
  ·rfl) rfl rfl
section
variable {w:World} {bQ bG bP:Nat} {R R2:World->Nat->Prop}
theorem Ee(h:w.cell? (Ad bG 0)=some (aF bP)):Calls Tryz.prog 44 #[aF bG] w (Ru w (.bool false)):=by
 go_in
 go_wp2_with fail
 go_ret
 exact⟨rfl,rfl⟩
theorem Ec(h:w.cell? (Ad bG 0)=some (aF bP))(L:Ca 46 #[aF bP] w fun q C=>∃B,q=.returned (aF B)/\R C B)(K:∀C B,R C B->Ca 47 #[aF B] C fun q E=>∃A,q=.returned (aF A)/\R2 E A):
  Calls Tryz.prog 29 #[aF bG] w fun q w'=>∃X A,R2 X A/\q=.returned (aF X.heap.size)/\w'=X.alloc (.cells #[aF A] 143):=by
 have M:=aG (Ee h)
 have H:=aG L
 have G:=aG K
 clear L K
 go_in
 go_wp2_with fail
 refine M.mono ?_
 rintro q X ⟨rfl,O⟩
 subst X
 go_wp2_with fail
 refine H.mono ?_
 rintro q C ⟨B,rfl,J⟩
 have N:=aG (G C B J)
 clear J
 go_wp2_with fail
 refine N.mono ?_
 rintro q E ⟨A,rfl,D⟩
 have F:=aG D
 clear D
 go_wp2_with fail
 go_ret
 exact⟨E,A,F,rfl,rfl⟩
theorem Eo(h:w.cell? (Ad bQ 0)=some (aF bG))(H:Calls Tryz.prog 29 #[aF bG] w fun q w'=>∃b,q=.returned (aF b)/\R w' b):Calls Tryz.prog 15 #[aF bQ] w fun q w'=>∃X b,R X b/\q=.returned (aF X.heap.size)/\w'=X.alloc (.cells #[aF b] 79):=by
 have C:=aG H
 clear H
 go_in
 go_wp2_with fail
 refine C.mono ?_
 rintro q X ⟨b,rfl,A⟩
 have B:=aG A
 clear A
 go_wp2_with fail
 go_ret
 exact⟨X,b,B,rfl,rfl⟩
theorem Ep{y:Pg}{p:Int}(P:w.cell? (Ad bQ 0)=some (aF bG))(O:w.cell? (Ad bG 0)=some (aF bP))(Q:Ca 46 #[aF bP] w fun q E=>∃D,q=.returned (aF D)/\tX E E.heap.size D y/\Bw w E)(N:y.bg[y.mn]?=some p):
  Ca 15 #[aF bQ] w fun q w'=>∃b B D,q=.returned (aF b)/\mF w' 0 B D b y (pS p)/\B<=w'.heap.size/\Bw w w':=by
 refine(Eo (R:=fun w' b=>∃X G,(∃B D,(∃L tv C A F,G=L.bm/\L.B=B/\L.bF=D/\nK X y L 1 tv C A F (pS p) Du)/\B<=X.heap.size/\Bw w X)/\b=X.heap.size/\w'=X.alloc (.cells #[aF G] 143)) P ((Ec (R:=fun E D=>tX E E.heap.size D y/\Bw w E) (R2:=fun X G=>∃B D,(∃L tv C A F,G=L.bm/\L.B=B/\L.bF=D/\nK X y L 1 tv C A F (pS p) Du)/\B<=X.heap.size/\Bw w X) O Q (fun E D h=>?_)).mono ?_)).mono ?_
 ·refine(LN h.1 (Nat.le_refl _) N).mono ?_
  rintro q X ⟨L,tv,C,A,F,rfl,M,K,J,-,k⟩
  exact⟨L.bm,rfl,_,_,⟨L,tv,C,A,F,rfl,M,K,J⟩,k.size,h.2.trans (k.mono h.2.size)⟩
 ·rintro q w' ⟨X,G,h,rfl,rfl⟩
  exact⟨_,rfl,X,G,h,rfl,rfl⟩
 ·rintro q w' ⟨T,b,⟨X,G,⟨B,D,⟨L,tv,C,A,F,rfl,M,K,J⟩,hX,kX⟩,rfl,rfl⟩,rfl,rfl⟩
  have H:Bw X ((X.alloc (.cells #[aF L.bm] 143)).alloc (.cells #[aF X.heap.size] 79)):=(ba _ _).alloc (by simp) _
  have S:=H.size
  refine⟨_,B,D,rfl,⟨X.heap.size,L,tv,C,A,F,heap_alloc_new _ _,(Below.heap_alloc _ _ _ (by simp)).trans (heap_alloc_new X _),M,K,?_,fun _ _=>Nat.zero_le _⟩,by omega,kX.trans (H.mono kX.size)⟩
  rw[Hx]
  exact J.below H
end
end
section
def ix(t:aJ):Nat->aJ
 |0=>[]
 |n+1=>ix t n++t
theorem pG(t:aJ)(n:Nat):(ix t n).length=n*t.length:=by
 induction n with
 |zero=>simp[ix]
 |succ n ih=>rw[ix,List.length_append,ih,Nat.succ_mul]
theorem nY(a b:aJ):(⟨a.toArray⟩:ByteArray)++(⟨b.toArray⟩:ByteArray)=⟨(a++b).toArray⟩:=by
 apply ByteArray.ext
 rw[ByteArray.data_append]
 simp
theorem Cp(t:aJ)(C:t.length< 1000)(n:Nat)(D:n< 1000)(w:World):
  Calls Tryz.prog 14 #[.string ⟨t.toArray⟩,aB n] w (Ru w (.string ⟨(ix t n).toArray⟩)):=by
 go_in
 go_wp2_with fail
 go_loopw [1,5] (fun i v wr=>∃k:Nat,i=aB ((n:Int)-k)/\k<=n/\v=.string ⟨(ix t k).toArray⟩/\wr=w) (fun i _ _=>(intOf i).toNat)
 case atStart=>exact⟨0,by simp,Nat.zero_le _,rfl,rfl⟩
 case round=>
  obtain⟨k,rfl,E,rfl,rfl⟩:=hrel
  by_cases B:k=n
  ·have A:¬((0:Int)< (n:Int)-k):=by omega
   go_wp2_with fail
   go_ret
   subst B
   exact⟨rfl,rfl⟩
  ·have A:(0:Int)< (n:Int)-k:=by omega
   have F:¬9223372036854775807< List.length (ix t k)+List.length t:=by
    rw[pG]
    have:k*t.length<=1000*1000:=Nat.mul_le_mul (by omega) (by omega)
    omega
   go_wp2_with fail
   go_roundw
   case rel=>exact⟨k+1,by congr 1;omega,by omega,by rw[nY];rfl,trivial⟩
   case measure=>simp[intOf];omega
theorem Gl(c:Int)(m:Nat)(A:0< m)(C:m< 100)(D:-9223372036854775808<=c/\c<=9223372036854775807)(w:World):
  Calls Tryz.prog 6 #[aB c,aB m] w fun r w'=>(∃k:Nat,k< m/\r=.returned (aB k))/\w'=w:=by
 go_in
 by_cases h:c< 0
 ·go_wp2_with fail
  go_ret
  obtain⟨u,B⟩:∃u:Nat,c+1=-(u:Int):=⟨(-(c+1)).toNat,by omega⟩
  refine⟨⟨u%m,Nat.mod_lt _ A,?_⟩,rfl⟩
  rw[B,Int.neg_tmod,<-Int.ofNat_tmod]
  simp only[Int.neg_neg]
  rfl
 ·go_wp2_with fail
  go_ret
  obtain⟨u,rfl⟩:∃u:Nat,c=(u:Int):=⟨c.toNat,by omega⟩
  exact⟨⟨u%m,Nat.mod_lt _ A,rfl⟩,rfl⟩
def jX:aJ:=[118,97,114,32,103,59,118,97,114,32,104,59,109,117,116,101,120,32,109,59,109,117,116,101,120,32,110,59]
def eB:Nat->Nat->aJ
 |0,n=>jX++[102,117,110,99,32,119,40,41,123]++ix [108,111,99,107,32,109,59,120,61,103,59,120,61,120,43,49,59,103,61,120,59,117,110,108,111,99,107,32,109,59] (n+1)++[125,102,117,110,99,32,109,97,105,110,40,41,123,103,111,32,119,40,41,59,103,111,32,119,40,41,59]++ix [108,111,99,107,32,109,59,120,61,103,59,120,61,120,43,49,59,103,61,120,59,117,110,108,111,99,107,32,109,59] (n+1)++[125]
 |1,n=>jX++[102,117,110,99,32,119,40,41,123]++ix [103,61,49,59,120,61,103,59] (n+1)++[125,102,117,110,99,32,109,97,105,110,40,41,123]++ix [103,61,49,59,120,61,103,59] (n+1)++[116,61,103,111,32,119,40,41,59,106,111,105,110,32,116,59]++ix [103,61,49,59,120,61,103,59] (n+1)++[125]
 |2,n=>jX++[102,117,110,99,32,119,40,41,123,103,61,49,59,125,102,117,110,99,32,102,40,41,123,103,61,50,59,125,102,117,110,99,32,109,97,105,110,40,41,123,116,61,103,111,32,119,40,41,59,106,111,105,110,32,116,59,117,61,103,111,32,102,40,41,59,106,111,105,110,32,117,59]++ix [120,61,103,59] n++[125]
 |3,n=>jX++[102,117,110,99,32,119,40,41,123,111,61,110,101,119,59,111,46,108,61,49,59]++ix [120,61,111,46,108,59,111,46,114,61,120,59] n++[125,102,117,110,99,32,109,97,105,110,40,41,123,103,111,32,119,40,41,59,103,111,32,119,40,41,59,119,40,41,59,125]
 |4,n=>jX++[102,117,110,99,32,119,40,41,123,120,61,103,59,125,102,117,110,99,32,109,97,105,110,40,41,123,103,61,51,59]++ix [103,111,32,119,40,41,59] (n+1)++[120,61,103,59,125]
 |5,n=>jX++[102,117,110,99,32,119,40,112,41,123,120,61,112,46,108,59,112,46,114,61,120,59,125,102,117,110,99,32,109,97,105,110,40,41,123,111,61,110,101,119,59,111,46,108,61,53,59]++ix [111,46,114,61,49,59] n++[103,111,32,119,40,111,41,59,125]
 |6,n=>jX++[102,117,110,99,32,102,40,41,123,103,61,49,59]++ix [120,61,103,59] n++[125,102,117,110,99,32,119,40,41,123,108,111,99,107,32,109,59,102,40,41,59,117,110,108,111,99,107,32,109,59,125,102,117,110,99,32,109,97,105,110,40,41,123,103,111,32,119,40,41,59,108,111,99,107,32,109,59,102,40,41,59,117,110,108,111,99,107,32,109,59,125]
 |7,n=>jX++[102,117,110,99,32,97,40,41,123,108,111,99,107,32,109,59,125,102,117,110,99,32,98,40,41,123,117,110,108,111,99,107,32,109,59,125,102,117,110,99,32,119,40,41,123,97,40,41,59,103,61,49,59,98,40,41,59,125,102,117,110,99,32,109,97,105,110,40,41,123,103,111,32,119,40,41,59]++ix [97,40,41,59,120,61,103,59,98,40,41,59] (n+1)++[125]
 |8,n=>jX++[102,117,110,99,32,119,40,41,123,108,111,99,107,32,110,59,108,111,99,107,32,109,59,103,61,49,59,117,110,108,111,99,107,32,110,59,117,110,108,111,99,107,32,109,59,125,102,117,110,99,32,109,97,105,110,40,41,123,103,111,32,119,40,41,59,108,111,99,107,32,109,59]++ix [103,61,50,59] (n+1)++[117,110,108,111,99,107,32,109,59,125]
 |9,n=>jX++[102,117,110,99,32,119,40,41,123,103,61,49,59,125,102,117,110,99,32,109,97,105,110,40,41,123,103,111,32,119,40,41,59]++ix [104,61,49,59,120,61,104,59] (n+1)++[125]
 |10,n=>jX++[102,117,110,99,32,119,40,112,41,123,105,102,32,112,123,108,111,99,107,32,109,59,125,101,108,115,101,123,108,111,99,107,32,109,59,125,103,61,49,59,117,110,108,111,99,107,32,109,59,125,102,117,110,99,32,109,97,105,110,40,41,123,103,111,32,119,40,49,41,59,103,111,32,119,40,48,41,59,108,111,99,107,32,109,59]++ix [120,61,103,59] (n+1)++[117,110,108,111,99,107,32,109,59,125]
 |_,n=>jX++[102,117,110,99,32,119,40,112,41,123,112,46,108,61,49,59,125,102,117,110,99,32,109,97,105,110,40,41,123,111,61,110,101,119,59,103,111,32,119,40,111,41,59]++ix [111,46,114,61,49,59,120,61,111,46,114,59] (n+1)++[125]
theorem Kr(k n:Nat)(D:k< 12)(H:n< 4)(w:World):Calls Tryz.prog 9 #[aB k,aB n] w (Ru w (.string ⟨(eB k n).toArray⟩)):=by
 have F:Hid (∀(t:aJ) (W:World),t.length<=40->Calls Tryz.prog 14 #[.string ⟨t.toArray⟩,aB ((n:Int)+1)] W fun r w'=>(∃R,r=.returned (.string ⟨R.toArray⟩)/\Hid (R=ix t (n+1))/\R.length<=200)/\w'=W):=fun t W A=>(Cp t (by omega) (n+1) (by omega) W).mono (fun r w' h=>⟨⟨_,h.1,rfl,by rw[pG];have:=Nat.mul_le_mul (show n+1<=4 by omega) A;omega⟩,h.2⟩)
 have G:Hid (∀(t:aJ) (W:World),t.length<=40->Calls Tryz.prog 14 #[.string ⟨t.toArray⟩,aB (n:Int)] W fun r w'=>(∃R,r=.returned (.string ⟨R.toArray⟩)/\Hid (R=ix t n)/\R.length<=200)/\w'=W):=fun t W A=>(Cp t (by omega) n (by omega) W).mono (fun r w' h=>⟨⟨_,h.1,rfl,by rw[pG];have:=Nat.mul_le_mul (show n<=4 by omega) A;omega⟩,h.2⟩)
 match k,D with
 |0,_|1,_|4,_|7,_|8,_|9,_|10,_|11,_=>
  go_in
  go_wp2_with fail
  refine(F _ _ (by decide)).mono ?_
  rintro q C ⟨⟨R,rfl,B,E⟩,rfl⟩
  go_wp2_with fail
  go_ret
  refine⟨?_,rfl⟩
  simp only[nY]
  rw[B.out]
  rfl
 |2,_|3,_|5,_|6,_=>
  go_in
  go_wp2_with fail
  refine(G _ _ (by decide)).mono ?_
  rintro q C ⟨⟨R,rfl,B,E⟩,rfl⟩
  go_wp2_with fail
  go_ret
  refine⟨?_,rfl⟩
  simp only[nY]
  rw[B.out]
  rfl
 |k+12,h=>exact absurd h (by omega)
end
end Go.Proofs.YtajfbbldaiaolaaGreatDoor
