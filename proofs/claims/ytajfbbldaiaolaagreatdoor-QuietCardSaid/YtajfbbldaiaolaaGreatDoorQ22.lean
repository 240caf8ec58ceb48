import Derived.Test.YtajfbbldaiaolaaGreatDoorQ21
set_option linter.unusedSimpArgs false
set_option linter.unusedVariables false
set_option maxRecDepth 100000
set_option maxHeartbeats 4000000
namespace Go.Proofs.YtajfbbldaiaolaaGreatDoor
open Go.RowKit Go.Shelf
variable {b d t:Nat}{l:List Nat}{w:World}{x:Rp}{y z:Value}
namespace Rp
def madeN(x:Rp)(k:Nat):Nat:=((List.range k).filter (fun i=>(x.st i).p.kind==6)).length
def madeF(x:Rp):Nat->Nat->Option Nat
 |0=>fun _=>none
 |k+1=>if(x.st k).p.kind=6 then fun t=>if t=k then some (x.madeN k)else x.madeF k t else x.madeF k
end Rp
theorem zK{k:Nat}(h:(x.st k).p.kind=6):x.madeN (k+1)=x.madeN k+1:=by
 unfold Rp.madeN
 rw[List.range_succ,List.filter_append,List.length_append]
 simp[h]
theorem Cg{k:Nat}(h:(x.st k).p.kind≠6):x.madeN (k+1)=x.madeN k:=by
 unfold Rp.madeN
 rw[List.range_succ,List.filter_append,List.length_append,List.filter_cons_of_neg (by simpa using h)]
 rfl
theorem Ch(x:Rp)(k:Nat):x.madeN k<=k:=by
 unfold Rp.madeN
 have:=List.length_filter_le (fun i=>(x.st i).p.kind==6) (List.range k)
 simpa using this
theorem xq:∀(k t:Nat),k<=t->x.madeF k t=none:=by
 intro k
 induction k with
 |zero=>intro t _;rfl
 |succ k ih=>
  intro t A
  unfold Rp.madeF
  split
  ·show(if t=k then _ else _)=none
   rw[if_neg (by omega)];exact ih t (by omega)
  ·exact ih t (by omega)
theorem qR(w:World):(Instr.makeMap 295 none).run Tryz.prog w=.ok (.map (some w.heap.size)) (w.alloc (.map #[] 0)):=by kernel_rfl
theorem De(a b:Value):(Tryz.zeroCells306.setIfInBounds 1 a).setIfInBounds 2 b=#[aH 0,a,b]++aE (List.replicate 104 0):=by kernel_rfl
theorem Bm(a b c:Value)(l l':List Nat)(h:l.length=l'.length):iO (#[a,b,c]++aE l) 3 (aX l')=#[a,b,c]++aE l':=by
 refine Array.ext_getElem? fun j=>?_
 by_cases B:j< (#[a,b,c]++aE l).size
 ·rw[nO _ _ _ _ B]
  rw[Array.size_append,aS]at B
  have A:(#[a,b,c]:Array Value).size=3:=rfl
  rw[A]at B
  rw[cG]
  by_cases C:3<=j/\j< 3+l'.length
  ·rw[if_pos C,Array.getElem?_append_right (by rw[A];omega),A]
   simp[aE]
  ·rw[if_neg C,Array.getElem?_append_left (by rw[A];omega),Array.getElem?_append_left (by rw[A];omega)]
 ·rw[Array.getElem?_eq_none (by rw[jF];omega),Array.getElem?_eq_none (by rw[Array.size_append,aS]at B⊢;omega)]
theorem rg:Et 143:=enters_of Tryz.func143 (by kernel_rfl) rfl
theorem xw(o:Obj)(_:Unit:=()):aC (aK b) w (Go.ChangeMaps.setBlock w.drew b o):=by
 refine⟨rfl,rfl,rfl,by simp[Go.ChangeMaps.setBlock],fun i B A=>?_⟩
 have:i≠b:=A
 simp[Go.ChangeMaps.setBlock,Array.getElem?_setIfInBounds_ne (Ne.symm this)]
 rfl
theorem AY{B:Value}(h:w.heap[b]?=some (.cells (#[y,z,B]++aE l) t (0,0))):w.there b 3 l.length:=fun j C=>by
 have A:=aA h
 rw[A.cell,A.fz,Array.getElem?_append_right (by show 3<=3+j;omega)]
 refine⟨?_,rfl⟩
 rw[show 3+j-(#[y,z,B]:Array Value).size=j by show 3+j-3=j;omega,bU C]
 rfl
theorem sH{P:Program}{D:Value}{l':List Nat}(h:w.heap[b]?=some (.cells (#[y,z,D]++aE l) t (0,0)))(E:l'.length=l.length):(storeCells (Ad b 3) (aX l')).run P w=.ok () (w.setCells b 3 (aX l')):=by
 have C:=AY h
 have:=run_storeCells_cells (P:=P) b 3 (aX l') 0 w (fun j A=>by rw[cG]at A;simpa using(C j (by omega)).1) (fun j A=>by rw[cG]at A;simpa using(C j (by omega)).2) (fun v B=>by
  simp only[aX,List.mem_map]at B
  obtain⟨a,_,rfl⟩:=B
  rfl)
 simpa using this
theorem EO{A:Value}(h:w.heap[b]?=some (.cells (#[y,z,A]++aE l) t (0,0))):w.cell? (Ad b 0)=some y:=by
 rw[(aA h).cell,Array.getElem?_append_left (by show 0< 3;decide)]
 rfl
theorem Im(C B A a:Value)(l:List Nat):(#[C,B,A]++aE l).setIfInBounds 0 a=#[a,B,A]++aE l:=by
 rw[Array.setIfInBounds_append_left (by show 0< 3;decide)]
 rfl
structure KP(w wr:World)(bR k:Nat)(x:Rp):Prop where
 kp:Below w.heap.size w wr
 b1:aM wr w.heap.size #[aF bR]
 bm:iL wr (w.heap.size+1) (x.madeN k) (x.madeF k)
 bh:wr.heap[w.heap.size+1+1]?=some (.cells (#[.int .u64 0,aF bR,.map (some (w.heap.size+1))]++aE (List.replicate 104 0)) 306 (0,0))
 b3:aM wr (w.heap.size+1+1+1) #[aF (w.heap.size+1+1)]
 le:k<=x.stmts.length
theorem MP{e f:Nat}{L:List Nat}(h:cA w d x)(sp:cP x)(ok:∀s,s< 64->x.spots.testBit s=true->yn x (x.madeF x.stmts.length) s)(hn:x.stmts.length<=60)(h0:0< x.stmts.length)
  (hx:∀k,k< x.starts.length->x.starts.getD k 0< x.stmts.length/\x.starts.getD k 0< 64) (a1:∀s,s< x.stmts.length->lz (x.st s)) (hm:x.starts.length< 64)
  (hT:Tz w) (hg:0< w.heap.size) (hS:dC (x.roundG (x.madeF x.stmts.length)) f (List.replicate 104 0)=some L) (a2:kh L) (hR:dD (Gm L) 70 (x.firstH L).1 (x.firstH L).1=some e) (hf:(x.firstH L).1< ec) (h6:e< 64):
  Calls Tryz.prog 97 #[aF d] w fun r w'=>∃bH,r=.returned (aF bH)/\jd w' bH d e L/\Bw w w':=by
 obtain⟨bv,sv,tv,rv,lv,h1,-⟩:=h.ex
 obtain⟨g,c,b,sr,sb,c3,-⟩:=h.stm h0
 have b4:d< w.heap.size:=h1.lt
 have ad:=qR
 obtain⟨W0,T⟩:=bM ((((w.alloc (.cells #[aF d] 221)).alloc (.map #[] 0)).alloc (.cells ((Tryz.zeroCells306.setIfInBounds 1 (aF d)).setIfInBounds 2 (.map (some (w.heap.size+1)))) 306)).alloc (.cells #[Pt (w.heap.size+1+1) 0] 223))
 have m:Hid (KP w W0 d 0 x):=by
  rw[T]
  refine⟨(((ba w _).alloc (by simp) _).alloc (by simp;omega) _).alloc (by simp;omega) _,(((aM.new w _ _).alloc _).alloc _).alloc _,?_,?_,aM.new' _ _ _ _ (by simp),Nat.zero_le _⟩
  ·have:=iL.new (w.alloc (.cells #[aF d] 221))
   rw[World.size_alloc]at this
   exact(this.keep (ba _ _)).keep (ba _ _)
  ·rw[De]
   have:=heap_alloc_new ((w.alloc (.cells #[aF d] 221)).alloc (.map #[] 0)) (.cells (#[aH 0,aF d,.map (some (w.heap.size+1))]++aE (List.replicate 104 0)) 306)
   rw[World.size_alloc,World.size_alloc]at this
   exact(Below.heap_alloc _ _ _ (by simp)).trans this
 have q1:Ce W0 w.heap.size 0 (aF d):=m.b1.cell 0
 have q3:Ce W0 d 3 (.slice (some (Ad g 0)) x.stmts.length c):=bc m.kp c3
 rw[T]at q3
 obtain⟨al,HH,an,a9,HX,ao,HT,HS,O⟩:=xA T h sp ok hx a1 hT hS a2
 have HR:=aG hR
 clear h sp ok hx a1 hT hS a2 hR h1 T
 go_in
 go_wp2_with fail
 rw[<-al.out]
 clear q1 q3 ad
 go_loopw [15] (fun i wr=>∃k:Nat,i=aB k/\Hid (KP w wr d k x)) (fun i _=>x.stmts.length-(intOf i).toNat)
 case atStart=>exact⟨0,rfl,m⟩
 case round=>
  obtain⟨k,rfl,A⟩:=hrel
  have af:=A.le
  by_cases hk:k=x.stmts.length
  ·have ae:¬((k:Int)< (x.stmts.length:Int)):=by omega
   have D:Hid (KP w wr d x.stmts.length x):=by rw[<-hk];exact A
   clear hk af A
   have u3:Ce wr (w.heap.size+1+1+1) 0 (aF (w.heap.size+1+1)):=D.b3.cell 0
   have aq:Hid (∀W,Bw wr W->Ca 142 #[.agg Tryz.zeroCells304,.func (.func 143) #[] #[Pt w.heap.size 0,Pt (w.heap.size+1+1+1) 0]] W (Rt W (.agg (aX L).toArray))):=fun W kk=>by
    rw[tR]
    refine uC (List.replicate 104 0) L f (x.roundG (x.madeF x.stmts.length)) kh 143 #[] _ W ⟨by simp,fun a ha=>by rw[List.eq_of_mem_replicate ha];decide⟩ ⟨⟨by simp,fun a ha=>by rw[List.eq_of_mem_replicate ha];decide⟩,fun j=>?_⟩ (fun y hy hO=>?_) HS (fun y W' hy hO k'=>?_) rg
    ·have:(List.replicate 104 0).getD (2*j) 0=0:=by
      rw[List.getD_eq_getElem?_getD,List.getElem?_replicate]
      split<;>rfl
     rw[this]
     decide
    ·have a5:kh (x.roundG (x.madeF x.stmts.length) y):=by
      have:∀(ts:List (El x.spots)) (l:List Nat),kh l->kh ((ts.map (·.1)).foldl (x.doG (x.madeF x.stmts.length)) l):=by
       intro ts
       induction ts with
       |nil=>intro l h;exact h
       |cons t ts ih=>intro l h;exact ih _ (xM (a9 t.1 t.2.1 t.2.2) h)
      have h2:=this (yT x.spots) y hO
      rw[dO]at h2
      exact h2
     exact⟨a5.wd,a5⟩
    ·have z:Bw wr W':=kk.trans (k'.mono kk.size)
     have kw:Bw w W':=D.kp.trans (z.mono D.kp.size)
     have E:W'.heap[w.heap.size+1+1]?=some (.cells (#[aH 0,aF d,.map (some (w.heap.size+1))]++aE (List.replicate 104 0)) 306 (0,0)):=(z.block _ (gl D.bh)).trans D.bh
     refine LU (HH.keep kw) an hO ((D.b1.below z).cell 0) ((D.b3.below z).cell 0) ?_ ?_ (D.bm.keep z) a9 (HT.below kw) (Nat.lt_of_lt_of_le hg kw.size)
     ·rw[(aA E).cell,Array.getElem?_append_left (by show 1< 3;decide)];rfl
     ·rw[(aA E).cell,Array.getElem?_append_left (by show 2< 3;decide)];rfl
   have b7:w.heap.size+1+1+1< wr.heap.size:=D.b3.lt
   have ab:Hid (L.length=(List.replicate 104 0).length):=by show _=_;rw[List.length_replicate];exact O.wd.len
   have i1:(Tryz.prog.info? 304).map (·.size)=some (aX L).length:=by rw[cG,O.out.wd.len];exact jQ.hi
   have i2:(aX L).length=104:=by rw[cG,O.out.wd.len]
   have i3:∀v∈aX L,v.oneCell'=true:=fun v hv=>by
    simp only[aX,List.mem_map]at hv
    obtain⟨a,_,rfl⟩:=hv
    rfl
   go_wp2_with fail
   go_region_held3 (fun w'=>Ce w' (w.heap.size+1+1+1) 0 (aF (w.heap.size+1+1))) (first|exact e4|exact e3|exact u3|go_keep) (first|(go_at_call 142;refine(aq _ (Below.refl _ wr).drew).mono ?_;rintro q Y ⟨rfl,K⟩;have C:Bw wr Y:=⟨K.os,K.tape,K.output,K.size,K.block⟩;have n:=aG C;have e3:Ce Y (w.heap.size+1+1+1) 0 (aF (w.heap.size+1+1)):=(D.b3.below C).cell 0;have H:Y.heap[w.heap.size+1+1]?=some (.cells (#[aH 0,aF d,.map (some (w.heap.size+1))]++aE (List.replicate 104 0)) 306 (0,0)):=(C.block _ (gl D.bh)).trans D.bh;have X:=aG H;have tt:=sH (P:=Tryz.prog) (l':=L) H ab;have e4:Ce (Y.setCells (w.heap.size+1+1) 3 (aX L)) (w.heap.size+1+1+1) 0 (aF (w.heap.size+1+1)):=((D.b3.below C).kept (eJ (aX L) 3 _ Y H).2 (by show¬w.heap.size+1+1+1=w.heap.size+1+1;omega)).cell 0;clear K C H))
   all_goals
    have F:=eJ (aX L) 3 _ Y X
    rw[Bm _ _ _ _ _ ab.out.symm]at F
    obtain⟨o,a4⟩:=bM (Y.setCells (w.heap.size+1+1) 3 (aX L))
    rw[<-a4]at F e4⊢
    have k5:Bw w o:=aY (D.kp.trans (n.mono D.kp.size)) F.2 (by omega)
    have h5:jd o (w.heap.size+1+1) d 0 L:=⟨⟨_,aA F.1⟩,O.wd.len⟩
    have a3:aM o (w.heap.size+1+1+1) #[aF (w.heap.size+1+1)]:=(D.b3.below n).kept F.2 (by show¬w.heap.size+1+1+1=w.heap.size+1+1;omega)
    obtain⟨a8,aa,ac,ap⟩:=fK F.1 k5 a3 (EV (w:=o.drew) (HH.keep k5.drew) (h5.keep (w':=o.drew) ⟨rfl,rfl,rfl,Nat.le_refl _,fun _ _=>rfl⟩) HX ao hm (HT.below k5.drew) (Nat.lt_of_lt_of_le hg k5.size) HR hf h6)
    clear F a4 k5 h5 a3 tt e3 X n
    go_wp2_with fail
    go_region_held3 (fun w'=>Ce w' (w.heap.size+1+1+1) 0 (aF (w.heap.size+1+1))) (first|exact e7|exact e6|exact e4|go_keep) (first|(go_at_call 146;refine ap.mono ?_;rintro q Q ⟨rfl,J⟩;have B:Bw o Q:=⟨J.os,J.tape,J.output,J.size,J.block⟩;have ar:=aG B;have e6:Ce Q (w.heap.size+1+1+1) 0 (aF (w.heap.size+1+1)):=(ac.below B).cell 0;have N:Q.heap[w.heap.size+1+1]?=some (.cells (#[aH 0,aF d,.map (some (w.heap.size+1))]++aE L) 306 (0,0)):=(B.block _ (gl a8)).trans a8;have am:=aG N;have f0:Q.frozen? (Ad (w.heap.size+1+1) 0)=false:=(aA N).fz 0;have d0:Ce Q (w.heap.size+1+1) 0 (aH 0):=EO N;have e7:Ce (Q.setCell (Ad (w.heap.size+1+1) 0) (aH (e:Nat))) (w.heap.size+1+1+1) 0 (aF (w.heap.size+1+1)):=((ac.below B).setO _ _ _ (by omega)).cell 0;have l6:w.heap.size+1+1< Q.heap.size:=(aA N).lt;clear J B N))
    all_goals
     have HF:Hid (jd (Q.setCell (Ad (w.heap.size+1+1) 0) (aH (e:Nat))) (w.heap.size+1+1) d e L/\Bw w (Q.setCell (Ad (w.heap.size+1+1) 0) (aH (e:Nat)))):=by
      refine⟨⟨⟨.map (some (w.heap.size+1)),?_⟩,O.wd.len⟩,(aa.trans (ar.mono aa.size)).setCell (p:=Ad (w.heap.size+1+1) 0) (by show w.heap.size<=w.heap.size+1+1;omega) _⟩
      have:=aA (heap_set (j:=0) (u:=aH (e:Nat)) am)
      rw[Im]at this
      exact this
     clear e6 f0 d0
     go_wp2_with fail
     go_ret
     exact⟨_,rfl,HF.1,HF.2⟩
  ·have ag:k< x.stmts.length:=by omega
   have ae:((k:Int)< (x.stmts.length:Int)):=by omega
   clear hk
   obtain⟨g',c',bs,au,av,y3,y4,y5,y6,y7,Z,-,b0,-,-⟩:=HH.stmO A.kp ag
   have e3:=bc A.kp c3
   rw[e3]at y3
   cases y3
   have y2:Ce wr bs 2 (aB (x.st k).p.kind):=Z.cell 2
   have b2:bs< wr.heap.size:=Z.lt
   have b5:g< wr.heap.size:=aD y4
   have ah:w.heap.size+1+1+1< wr.heap.size:=A.b3.lt
   obtain⟨V,S⟩:=bM (wr.alloc (.cells #[aF bs,aB (x.st k).fn,aB (x.st k).nx,aB (x.st k).ins] 253))
   have G:Bw wr V:=by rw[S];exact ba wr _
   obtain⟨b8,a7⟩:=aN G S
   have R:=A.kp.trans (G.mono A.kp.size)
   clear Z e3
   by_cases M:(x.st k).p.kind=6
   ·have ai:(((x.st k).p.kind:Int)==6)=true:=by rw[beq_iff_eq];omega
    have u3:Ce V (w.heap.size+1+1+1) 0 (aF (w.heap.size+1+1)):=(A.b3.below G).cell 0
    have E:V.heap[w.heap.size+1+1]?=some (.cells (#[aH 0,aF d,.map (some (w.heap.size+1))]++aE (List.replicate 104 0)) 306 (0,0)):=(G.block _ (gl A.bh)).trans A.bh
    have u2:V.cell? (Ad (w.heap.size+1+1) 2)=some (.map (some (w.heap.size+1))):=by
     rw[(aA E).cell,Array.getElem?_append_left (by show 2< 3;decide)]
     rfl
    have hM:iL V.drew (w.heap.size+1) (x.madeN k) (x.madeF k):=A.bm.keep G.drew
    have ay:=hM.len
    have ax:=Ch x k
    obtain⟨w9,aw,a6,a0⟩:=hM.add k (by omega) (by omega) (xq k k (Nat.le_refl _)) (x.madeN k) (by omega)
    have HN:Hid (KP w w9 d (k+1) x):=by
     obtain⟨es,ck,aj,ak,az,rfl⟩:=a0
     have kt:aC (aK (w.heap.size+1)) V (Go.ChangeMaps.setBlock V.drew (w.heap.size+1) (.map aj ak)):=xw _
     refine⟨aY R kt (by omega),(A.b1.below G).kept kt (by show¬w.heap.size=w.heap.size+1;omega),?_,(kt.block _ (gl E) (by show¬w.heap.size+1+1=w.heap.size+1;omega)).trans E,(A.b3.below G).kept kt (by show¬w.heap.size+1+1+1=w.heap.size+1;omega),by omega⟩
     rw[zK M,show x.madeF (k+1)=(fun t=>if t=k then some (x.madeN k)else x.madeF k t)by show(if _ then _ else _)=_;rw[if_pos M]]
     exact a6
    have b6:w.heap.size+1+1+1< V.heap.size:=Nat.lt_of_lt_of_le ah G.size
    clear M S G R hM a6 a0 E
    go_wp2_with fail
    rw[<-a7.out]
    go_region
    go_wp2_with fail
    go_roundw
    case rel=>exact⟨k+1,by go_num,HN⟩
    case measure=>simp[intOf];omega
   ·have ai:(((x.st k).p.kind:Int)==6)=false:=by rw[beq_eq_false_iff_ne];omega
    have HN:Hid (KP w V d (k+1) x):=by
     refine⟨R,A.b1.below G,?_,(G.block _ (gl A.bh)).trans A.bh,A.b3.below G,by omega⟩
     rw[Cg M,show x.madeF (k+1)=x.madeF k by show(if _ then _ else _)=_;rw[if_neg M]]
     exact A.bm.keep G
    clear M S G R
    go_wp2_with fail
    rw[<-a7.out]
    go_roundw
    case rel=>exact⟨k+1,by go_num,HN⟩
    case measure=>simp[intOf];omega
theorem mo:Et 150:=enters_of Tryz.func150 (by kernel_rfl) rfl
theorem Gk(a b:Nat)(w:World):Calls Tryz.prog 150 #[aH a,aH b] w (Ru w (aH (dT a b:Nat))):=by
 have r1:=gz
 go_in
 go_wp2_with fail
 go_ret
 exact⟨rfl,rfl⟩
theorem rm:Et 225:=enters_of Tryz.func225 (by kernel_rfl) rfl
def qP(op:Nat->Nat->Nat)(l:List Nat)(tq what:Nat):List Nat:=l.set tq (op (l.getD tq 0) what)
theorem IJ{a c:Nat}(A:aM w b (aE l))(M:l.length=53)(K:c< 53)(O:w.cell? (Ad a 2)=some (.func (.func 150) #[] #[])):
  Calls Tryz.prog 225 #[aB c,aH d,Pt a 0,Pt b 0] w fun r w'=>r=.returned (.tuple #[])/\aM w' b (aE (qP dT l c d))/\aC (aK b) w w':=by
 have D:((c:Nat):Int)< 53:=by omega
 have P:w.cell? (Ad b c)=some (aH (l.getD c 0:Nat)):=(A.cell _).trans (bU (by omega))
 have N:w.frozen? (Ad b c)=false:=A.fz c
 have F:=A.lt
 have G:=aG (Gk (l.getD c 0) d)
 have E:=mo
 have H:Hid (∀v:Nat,aM (w.setCell (Ad b c) (aH v)).drew b (aE (l.set c v))/\aC (aK b) w (w.setCell (Ad b c) (aH v)).drew):=fun v=>by
  have B:=A.set c (aH (v:Nat)) (by rw[aS];omega)
  rw[eI]at B
  exact⟨B.below ⟨rfl,rfl,rfl,Nat.le_refl _,fun _ _=>rfl⟩,((aC.refl _ w).set1 c _).drew⟩
 unfold qP
 generalize l.getD c 0=J at *
 clear A
 go_in
 go_wp2_with fail
 go_region_law (go_simp;refine(G _).mono ?_;rintro q C ⟨rfl,L⟩;subst C;try go_wp2_with fail)
 all_goals go_wp2_with fail
 all_goals go_end0
 all_goals exact⟨rfl,H _⟩
theorem mm:Et 158:=enters_of Tryz.func158 (by kernel_rfl) rfl
theorem Gj(a b:Nat)(w:World):Calls Tryz.prog 158 #[aH a,aH b] w (Ru w (aH (fV a b:Nat))):=by
 have r1:=ff
 go_in
 go_wp2_with fail
 go_ret
 exact⟨rfl,rfl⟩
theorem rk:Et 231:=enters_of Tryz.func231 (by kernel_rfl) rfl
theorem II{a c:Nat}(A:aM w b (aE l))(M:l.length=53)(K:c< 53)(O:w.cell? (Ad a 2)=some (.func (.func 158) #[] #[])):
  Calls Tryz.prog 231 #[aB c,aH d,Pt a 0,Pt b 0] w fun r w'=>r=.returned (.tuple #[])/\aM w' b (aE (qP fV l c d))/\aC (aK b) w w':=by
 have D:((c:Nat):Int)< 53:=by omega
 have P:w.cell? (Ad b c)=some (aH (l.getD c 0:Nat)):=(A.cell _).trans (bU (by omega))
 have N:w.frozen? (Ad b c)=false:=A.fz c
 have F:=A.lt
 have G:=aG (Gj (l.getD c 0) d)
 have E:=mm
 have H:Hid (∀v:Nat,aM (w.setCell (Ad b c) (aH v)).drew b (aE (l.set c v))/\aC (aK b) w (w.setCell (Ad b c) (aH v)).drew):=fun v=>by
  have B:=A.set c (aH (v:Nat)) (by rw[aS];omega)
  rw[eI]at B
  exact⟨B.below ⟨rfl,rfl,rfl,Nat.le_refl _,fun _ _=>rfl⟩,((aC.refl _ w).set1 c _).drew⟩
 unfold qP
 generalize l.getD c 0=J at *
 clear A
 go_in
 go_wp2_with fail
 go_region_law (go_simp;refine(G _).mono ?_;rintro q C ⟨rfl,L⟩;subst C;try go_wp2_with fail)
 all_goals go_wp2_with fail
 all_goals go_end0
 all_goals exact⟨rfl,H _⟩
end Go.Proofs.YtajfbbldaiaolaaGreatDoor
