import Derived.Test.YtmdaflepdaiabaaGreatDoorQ29
set_option linter.unusedSimpArgs false
set_option linter.unusedVariables false
namespace Go.Proofs.YtmdaflepdaiabaaGreatDoor
section
set_option maxRecDepth 100000
set_option maxHeartbeats 2000000
open Go.RowKit Go.Shelf
theorem wm{w:World}{P:Nat→Prop}{L:List Nat}{hs:List Ph}(h:fC w P L hs):L.length=hs.length:=by
 induction h with
 |nil=>rfl
 |cons _ _ _ ih=>simp[ih]
theorem vU(n:Nat):madeCells (Value.agg #[.pointer none,.int .i64 0,.int .i64 0,.int .i64 0]).cells (n*4)=(fU (List.replicate n none)).toArray:=by
 apply Array.ext_getElem?
 intro i
 by_cases hi:i< n*4
 ·have e:i=i/4*4+i%4:=by omega
  have h1:=tg (List.replicate n none) (i/4) (i%4) (by omega)
  rw[←e]at h1
  rw[show(fU (List.replicate n none)).toArray[i]?=(fU (List.replicate n none))[i]? by simp,h1,List.getElem?_replicate,if_pos (by omega)]
  have h4:i%4=0∨i%4=1∨i%4=2∨i%4=3:=by omega
  rcases h4 with h|h|h|h<;>simp[madeCells,h,hi,jJ,Value.cells]
 ·rw[Array.getElem?_eq_none (by rw[size_madeCells];omega),Array.getElem?_eq_none (by rw[List.size_toArray,pL,List.length_replicate];omega)]
theorem yu(l:List Pd):∀z:Fw,(l.foldl oq z).mut_≤z.mut_+l.length:=by
 induction l with
 |nil=>intro z;simp
 |cons d l ih=>
  intro z
  rw[List.foldl_cons]
  refine Nat.le_trans (ih _) ?_
  have:(oq z d).mut_≤z.mut_+1:=by
   unfold oq
   split
   ·exact Nat.le_refl _
   ·split
    ·exact Nat.le_succ _
    ·exact Nat.le_succ _
  simp
  omega
theorem yv(l:List Pd):∀z:Fw,(l.foldl oq z).begins.length≤z.begins.length+l.length:=by
 induction l with
 |nil=>intro z;simp
 |cons d l ih=>
  intro z
  rw[List.foldl_cons]
  refine Nat.le_trans (ih _) ?_
  have:(oq z d).begins.length≤z.begins.length+1:=by
   unfold oq
   split
   ·exact Nat.le_succ _
   ·split
    ·simp
    ·exact Nat.le_succ _
  simp
  omega
theorem kH(W:World)(b j:Nat)(v:Value):W.grownBy (W.setCell ⟨b,j,none⟩ v) (some b):=by
 have k:ae (ao b) W (W.setCell ⟨b,j,none⟩ v):=(ae.refl _ W).set1 _ _
 exact⟨k.os,k.tape,k.output,k.size,fun i hi hne=>k.block i hi (fun e=>hne (by rw[show i=b from e]))⟩
theorem ko.app{w W2 w4:World}{bF g n:Nat}{z:Fw}{gv v4:Value}{tb:List (Option (Nat×Fs))}{i:Int}(h1:W2.heap[bF]?=some (.cells #[gv,.int .i64 z.main,.int .i64 z.mut_,.slice (some ⟨g,0,none⟩) n n] 151 (0,0)))(h2:W2.ownsRow w.heap.size 3 1 gv z.begins.length (z.begins.map (Value.int .i64)))(h3:oA w bF g n tb W2)
  (ho:w4.ownsRow w.heap.size 3 1 v4 (z.begins.length+1) (z.begins.map (Value.int .i64)++[.int .i64 i])) (hg:(W2.alloc (.cells #[.int .i64 i] 3)).grownBy w4 gv.ownBlock):
  (w4.cell? ⟨bF,0,none⟩=some gv∧w4.frozen? ⟨bF,0,none⟩=false∧bF< w4.heap.size)∧Below w.heap.size w w4∧Below w.heap.size w (w4.setCell ⟨bF,0,none⟩ v4)∧ko w bF g n {z with T:=er tb,begins:=z.begins++[i]} (w4.setCell ⟨bF,0,none⟩ v4):=by
 have kA:Below W2.heap.size W2 (W2.alloc (.cells #[.int .i64 i] 3)):=(Below.refl _ W2).alloc (Nat.le_refl _) _
 have hA:=ay h2 kA
 have rw2:∀r,gv.ownBlock=some r→w.heap.size≤r∧∃cur fr,(W2.alloc (.cells #[.int .i64 i] 3)).heap[r]?=some (Obj.cells cur 3 fr):=fun r e=>by
  rcases hA.2 with⟨rfl,_⟩|⟨g,cap,cur,rfl,hB,hg,_⟩
  ·cases e
  ·cases e;exact⟨hB,_,_,hg⟩
 have st:∀(k2:Nat) (cur:Array Value) (t:TypeId) (fr:Nat×Nat),W2.heap[k2]?=some (Obj.cells cur t fr)→t≠3→w4.heap[k2]?=some (Obj.cells cur t fr):=fun k2 cur t fr e hne=>by
  have e2:=(kA.block k2 (Array.getElem?_eq_some_iff.1 e).1).trans e
  refine(hg.block k2 (Array.getElem?_eq_some_iff.1 e2).1 (fun h=>?_)).trans e2
  obtain⟨_,c',f',e'⟩:=rw2 k2 h.symm
  rw[e2]at e'
  cases e'
  exact hne rfl
 have s1:=st _ _ _ _ h1 (by decide)
 have s3:=st _ _ _ _ h3.row (by decide)
 have kw:Below w.heap.size w w4:=by
  have k0:=h3.kp.trans (kA.mono h3.kp.size)
  exact k0.grown hg k0.size (fun r e=>(rw2 r e).1)
 have kk:ae (ao bF) w4 (w4.setCell ⟨bF,0,none⟩ v4):=(ae.refl _ w4).set1 _ _
 have kf:=aE kw kk h3.hF
 have e1:=heap_setCell s1 0 v4
 refine⟨⟨(af s1).cell 0,(af s1).fz 0,(af s1).lt⟩,kw,kf,v4,tb,e1,?_,⟨(af e1).cell 3,(kk.block g (Array.getElem?_eq_some_iff.1 s3).1 h3.ne).trans s3,h3.len,kf,h3.hg,h3.hF,h3.ne,h3.at'⟩,rfl⟩
 rw[List.map_append,List.length_append]
 exact iP ho (kH w4 bF 0 _) s1 (by decide)
theorem ko.mid{w X W2:World}{bF g n:Nat}{z:Fw}{gv:Value}{tb:List (Option (Nat×Fs))}(h1:X.heap[bF]?=some (.cells #[gv,.int .i64 z.main,.int .i64 z.mut_,.slice (some ⟨g,0,none⟩) n n] 151 (0,0)))(h2:X.ownsRow w.heap.size 3 1 gv z.begins.length (z.begins.map (Value.int .i64)))(h3:oA w bF g n tb X)(hk:ae (ao g) X W2):
  W2.heap[bF]?=some (.cells #[gv,.int .i64 z.main,.int .i64 z.mut_,.slice (some ⟨g,0,none⟩) n n] 151 (0,0))∧W2.ownsRow w.heap.size 3 1 gv z.begins.length (z.begins.map (Value.int .i64)):=by
 refine⟨(hk.block bF (Array.getElem?_eq_some_iff.1 h1).1 (fun e=>h3.ne (show bF=g from e).symm)).trans h1,aL h2 hk (fun i e=>?_)⟩
 rcases h2.2 with⟨rfl,_⟩|⟨g',cap,cur,rfl,hB,hg,_⟩
 ·cases e
 ·cases e
  exact ee hg h3.row (by decide)
theorem py:(Tryz.prog.info? 3).map (fun i=>(i.zero,i.size,i.bytes))=some (some (.int .i64 0),1,8):=by kernel_rfl
theorem ko.set1{w wr:World}{bF g n:Nat}{z:Fw}(h:ko w bF g n z wr)(m:Nat):ko w bF g n {z with main:=m} (wr.setCell ⟨bF,1,none⟩ (.int .i64 m)):=by
 obtain⟨gv,tb,h1,h2,h3,h4⟩:=h.ex
 have kk:ae (ao bF) wr (wr.setCell ⟨bF,1,none⟩ (.int .i64 m)):=(ae.refl _ wr).set1 _ _
 have e1:=heap_setCell h1 1 (.int .i64 m)
 refine⟨gv,tb,e1,iP h2 (kH wr bF 1 _) h1 (by decide),⟨(af e1).cell 3,(kk.block g (Array.getElem?_eq_some_iff.1 h3.row).1 h3.ne).trans h3.row,h3.len,aE h3.kp kk h3.hF,h3.hg,h3.hF,h3.ne,h3.at'⟩,h4⟩
theorem ko.set2{w wr:World}{bF g n:Nat}{z:Fw}(h:ko w bF g n z wr)(m:Nat):ko w bF g n {z with mut_:=m} (wr.setCell ⟨bF,2,none⟩ (.int .i64 m)):=by
 obtain⟨gv,tb,h1,h2,h3,h4⟩:=h.ex
 have kk:ae (ao bF) wr (wr.setCell ⟨bF,2,none⟩ (.int .i64 m)):=(ae.refl _ wr).set1 _ _
 have e1:=heap_setCell h1 2 (.int .i64 m)
 refine⟨gv,tb,e1,iP h2 (kH wr bF 2 _) h1 (by decide),⟨(af e1).cell 3,(kk.block g (Array.getElem?_eq_some_iff.1 h3.row).1 h3.ne).trans h3.row,h3.len,aE h3.kp kk h3.hF,h3.hg,h3.hF,h3.ne,h3.at'⟩,h4⟩
theorem Aj{w:World}{P:Nat→Prop}{bp:Nat}{l:List Pd}{hs:List Ph}(h:Ay w P bp l hs)(ok:rx l hs.length):
  Calls Tryz.prog 35 #[ak bp] w fun r w'=>∃bF,r=.returned (ak bF)∧lE w' bF (Bs l hs.length).fl∧Below w.heap.size w w':=by
 obtain⟨dv,sv,bds,done,F,r1,r2,r3,r4,r5,r6,r7,r8,r9,r10⟩:=h.ex
 have hdl:done.length=hs.length:=wm r7
 have hbl:=r4.len
 rw[hdl]at r3
 rw[hbl]at r2
 obtain⟨pd,cd,rfl⟩:=ai r2
 obtain⟨ps,cs,rfl⟩:=ai r3
 have c0:w.cell? ⟨bp,0,none⟩=some (.slice pd l.length cd):=r1.cell 0
 have c1:w.cell? ⟨bp,1,none⟩=some (.slice ps hs.length cs):=r1.cell 1
 have hlb:=r1.lt
 have HR2:=aa r2
 have HR4:=aa r4
 have HOK:=aa ok
 obtain⟨i0,hi,hz0,hz1,hz2⟩:=info_parts iZ
 have hnm:=ok.nm
 have hmk:=run_make (P:=Tryz.prog) w 149 197 i0 _ Tryz.underlying149 hi hz0 .i64 .i64 hs.length hs.length (by omega) (by omega) (by rw[hz2];omega) (by omega)
 rw[hz1,Int.toNat_natCast,vU]at hmk
 clear h r1 r2 r3 r4 r5 r6 r7 r8 r9 r10 ok
 go_enter Tryz.func35,Tryz.ntmps35
 go_wp2_with fail
 obtain⟨W0,hW0⟩:∃W0,W0=(w.alloc (Obj.cells (fU (List.replicate hs.length none)).toArray 197)).alloc (.cells #[.slice none 0 0,.int .i64 0,.int .i64 0,.slice (some ⟨w.heap.size,0,none⟩) hs.length hs.length] 151):=⟨_,rfl⟩
 rw[←hW0]
 have hI0:ko w (w.heap.size+1) w.heap.size hs.length {T:=List.replicate hs.length none} W0:=by
  have e1:=heap_alloc_new (w.alloc (Obj.cells (fU (List.replicate hs.length none)).toArray 197)) (.cells #[.slice none 0 0,.int .i64 0,.int .i64 0,.slice (some ⟨w.heap.size,0,none⟩) hs.length hs.length] 151)
  rw[World.size_alloc,←hW0]at e1
  refine⟨.slice none 0 0,List.replicate hs.length none,e1,World.ownsRow_nil _ _ _ _,⟨(af e1).cell 3,?_,by simp,?_,Nat.le_refl _,by omega,by omega,fun k b s e=>?_⟩,by simp[er]⟩
  ·rw[hW0];exact(Below.heap_alloc _ _ _ (by simp)).trans (heap_alloc_new _ _)
  ·rw[hW0];exact((Below.refl _ w).alloc (Nat.le_refl _) _).alloc (by simp) _
  ·rw[List.getElem?_replicate]at e
   split at e<;>cases e
 have HI0:=aa hI0
 clear hI0 hW0 c0 c1 hmk
 go_loopw [19] (fun i wr=>∃k:Nat,i=.int .i64 k∧k≤l.length∧Hid (ko w (w.heap.size+1) w.heap.size hs.length ((l.take k).foldl oq {T:=List.replicate hs.length none}) wr)) (fun i _=>l.length-(intOf i).toNat)
 case atStart=>exact⟨0,rfl,Nat.zero_le _,HI0⟩
 case round=>
  obtain⟨k,rfl,hk,HI⟩:=hrel
  by_cases hkl:k=l.length
  ·have hlt:¬((k:Int)< (l.length:Int)):=by omega
   go_wp2_with fail
   go_ret
   rw[hkl,List.take_length]at HI
   obtain⟨gv,tb,h1,h2,h3,h4⟩:=HI.out.ex
   exact⟨_,rfl,HI.out.fin HOK.out.all HOK.out.nm,h3.kp⟩
  ·have hlt:(k:Int)< (l.length:Int):=by omega
   have hk0:(0:Int)≤k:=by omega
   obtain⟨d,hd⟩:∃d,l[k]?=some d:=⟨_,List.getElem?_eq_getElem (by omega)⟩
   obtain⟨b,hb⟩:∃b,bds[k]?=some b:=⟨_,List.getElem?_eq_getElem (by omega)⟩
   obtain⟨sp,sb,bb,Q,g1,g2,g3,g4,g5,g6⟩:=HR4.out.rep k b d hb hd
   obtain⟨gd,cd',e⟩:=aG HR2.out (by omega)
   cases e
   have htk:(l.take (k+1)).foldl oq {T:=List.replicate hs.length none}=oq ((l.take k).foldl oq {T:=List.replicate hs.length none}) d:=by rw[List.take_add_one,hd];simp
   obtain⟨z,hz⟩:∃z,z=(l.take k).foldl oq {T:=List.replicate hs.length none}:=⟨_,rfl⟩
   have hzm:z.mut_≤k:=by rw[hz];have:=yu (l.take k) {T:=List.replicate hs.length none};simp at this;omega
   have hzb:z.begins.length≤k:=by rw[hz];have:=yv (l.take k) {T:=List.replicate hs.length none};simp at this;omega
   rw[←hz]at HI htk
   have HTK:=aa htk
   clear hz htk
   obtain⟨gv,tb,h1,h2,h3,h4⟩:=HI.out.ex
   have few:=HOK.out.few
   have hkp:=h3.kp
   have ap:wr.cell? ⟨gd,k,none⟩=some (ak b):=cZ (ay HR2.out hkp) (by simp[dW,hb])
   have gw:=g2.below hkp
   have a0:wr.cell? ⟨b,0,none⟩=some (.int .i64 d.kind):=gw.cell 0
   have a1:wr.cell? ⟨b,1,none⟩=some (.string ⟨d.name.toArray⟩):=gw.cell 1
   have a3:wr.cell? ⟨b,3,none⟩=some (.int .i64 d.num):=gw.cell 3
   have a5:wr.cell? ⟨b,5,none⟩=some sb:=gw.cell 5
   have lw:=gw.lt
   have bw:=af h1
   have q2:wr.cell? ⟨w.heap.size+1,2,none⟩=some (.int .i64 z.mut_):=bw.cell 2
   have fq:∀j,wr.frozen? ⟨w.heap.size+1,j,none⟩=false:=bw.fz
   have f2:=fq 2
   have lF:=bw.lt
   by_cases k1:d.kind=1
   ·have e1:((d.kind:Int)==1)=true:=by rw[beq_iff_eq];omega
    have HN:Hid (ko w (w.heap.size+1) w.heap.size hs.length ((l.take (k+1)).foldl oq {T:=List.replicate hs.length none}) (wr.setCell ⟨w.heap.size+1,2,none⟩ (.int .i64 ((z.mut_:Int)+1)))):=by
     show ko _ _ _ _ _ _
     rw[HTK.out,oq,if_pos k1]
     exact HI.out.set2 (z.mut_+1)
    clear h1 h2 h3 h4 g1 g2 g3 g4 g5 g6 bw gw
    go_wp2_with fail
    go_roundw
    case rel=>exact⟨k+1,by go_num,by omega,HN⟩
    case measure=>simp[intOf];omega
   by_cases k2:d.kind=2
   ·have e1:((d.kind:Int)==1)=false:=by rw[beq_eq_false_iff_ne];omega
    have e2:((d.kind:Int)==2)=true:=by rw[beq_iff_eq];omega
    obtain⟨z1,hz1'⟩:∃z1:Fw,z1={z with main:=if d.name=[109,97,105,110]then d.num else z.main}:=⟨_,rfl⟩
    have HFD:Hid ((l.take (k+1)).foldl oq {T:=List.replicate hs.length none}={z1 with T:=(iF d.num d.body (-1) z1.T).1,begins:=z1.begins++[(iF d.num d.body (-1) z1.T).2]}):=by
     show _=_
     rw[HTK.out,oq,if_neg k1,if_pos k2,hz1']
    have HZB:Hid (z1.begins.length≤k):=by show _≤_;rw[hz1'];exact hzb
    obtain⟨i1,hj,hj0,hj1,hj2⟩:=info_parts py
    obtain⟨pb,cb,rfl⟩:=ai g4.1
    have HG2:=aa g2
    have HG4:=aa g4.1
    have HG5:=aa g5
    have q1:wr.cell? ⟨w.heap.size+1,1,none⟩=some (.int .i64 z.main):=bw.cell 1
    have f1:=fq 1
    clear h1 h2 h3 h4 g1 g2 g3 g4 g5 g6 bw gw q2 f2 fq
    cases hm:(d.name==[109,97,105,110])
    ·have hmn:d.name≠[109,97,105,110]:=fun e=>by rw[e]at hm;revert hm;decide
     have HZ:Hid (ko w (w.heap.size+1) w.heap.size hs.length z1 wr):=by
      show ko _ _ _ _ _ _
      rw[hz1',if_neg hmn]
      exact HI.out
     clear hz1' HI
     obtain⟨gv,tb,h1,h2,h3,h4⟩:=HZ.out.ex
     obtain⟨pg,cg,rfl⟩:=ai h2
     have gx:=HG2.out.below h3.kp
     have s3:wr.cell? ⟨b,3,none⟩=some (.int .i64 d.num):=gx.cell 3
     have s5:wr.cell? ⟨b,5,none⟩=some (.slice pb bb.length cb):=gx.cell 5
     have q0:wr.cell? ⟨w.heap.size+1,0,none⟩=some (.slice pg z1.begins.length cg):=(af h1).cell 0
     have lX:=(af h1).lt
     have hsz:=h3.kp.size
     have HBL:=aa (tD d.body w wr.drew Q bb _ d.num (-1) (w.heap.size+1) w.heap.size hs.length tb HG5.out HG4.out (HOK.out.body d (List.mem_of_getElem? hd) k2) (h3.below ((Below.refl _ _).drew)))
     have HAP:Hid (∀W2 tb2,er tb2=(iF d.num d.body (-1) (er tb)).1→oA w (w.heap.size+1) w.heap.size hs.length tb2 W2→ae (ao w.heap.size) wr.drew W2→W2.cell? ⟨w.heap.size+1,0,none⟩=some (.slice pg z1.begins.length cg)∧W2.cell? ⟨b,3,none⟩=some (.int .i64 d.num)∧W2.cell? ⟨b,5,none⟩=some (.slice pb bb.length cb)∧w.heap.size+1< W2.heap.size∧Hid (W2.ownsRow w.heap.size 3 1 (.slice pg z1.begins.length cg) z1.begins.length (z1.begins.map (Value.int .i64)))∧Hid (∀v4 w4,w4.ownsRow w.heap.size 3 1 v4 (z1.begins.length+1) (z1.begins.map (Value.int .i64)++[.int .i64 (iF d.num d.body (-1) (er tb)).2])→(W2.alloc (.cells #[.int .i64 (iF d.num d.body (-1) (er tb)).2] 3)).grownBy w4 (Value.slice pg z1.begins.length cg).ownBlock→w4.cell? ⟨w.heap.size+1,0,none⟩=some (.slice pg z1.begins.length cg)∧w4.frozen? ⟨w.heap.size+1,0,none⟩=false∧w.heap.size+1< w4.heap.size∧(w4.cell? ⟨b,3,none⟩=some (.int .i64 d.num)∧w4.cell? ⟨b,5,none⟩=some (.slice pb bb.length cb))∧((w4.setCell ⟨w.heap.size+1,0,none⟩ v4).cell? ⟨b,3,none⟩=some (.int .i64 d.num)∧(w4.setCell ⟨w.heap.size+1,0,none⟩ v4).cell? ⟨b,5,none⟩=some (.slice pb bb.length cb))∧Hid (ko w (w.heap.size+1) w.heap.size hs.length ((l.take (k+1)).foldl oq {T:=List.replicate hs.length none}) (w4.setCell ⟨w.heap.size+1,0,none⟩ v4)))):=fun W2 tb2 e2 hT2 hK2=>by
      have hK2':ae (ao w.heap.size) wr W2:=⟨hK2.os,hK2.tape,hK2.output,hK2.size,hK2.block⟩
      obtain⟨m1,m2⟩:=ko.mid h1 h2 h3 hK2'
      have g2:=HG2.out.below hT2.kp
      refine⟨(af m1).cell 0,g2.cell 3,g2.cell 5,(af m1).lt,m2,fun v4 w4 ho hg4=>?_⟩
      obtain⟨⟨p1,p2,p3⟩,p4,p5,p6⟩:=ko.app m1 m2 hT2 ho hg4
      have g4:=HG2.out.below p4
      have g5:=HG2.out.below p5
      refine⟨p1,p2,p3,⟨g4.cell 3,g4.cell 5⟩,⟨g5.cell 3,g5.cell 5⟩,?_⟩
      show ko _ _ _ _ _ _
      rw[HFD.out,←h4,←e2]
      exact p6
     clear h1 h2 h3 h4 gx HZ
     go_wp2_with fail
     go_region_law (first|(refine aA rfl (.tmp 56) (.tmp 68) 34 rfl w.heap.size 3 i1 (.int .i64 0) 1 8 Tryz.underlying34 hj hj0 hj1 hj2 rfl (by decide) _ _ _ (by simp[Act.eval,Act.put]) (HOW.out.alloc _) ⟨W2.heap.size,0,none⟩ 1 1 [.int .i64 (iF d.num d.body (-1) (er tb)).2] (by simp[Act.eval,Act.put]) rfl (aF _ _ _ _ (by simp)) (by intro u hu;simp at hu;subst hu;rfl) (by decide) (by have:=HZB.out;unfold maxLen;omega) (by have:=HZB.out;omega) (by simp;omega) ?_;intro v4 w4 hown4 hgrow4 hwh4;obtain⟨p4,k4,rfl⟩:=ai hown4;obtain⟨t9,f9,l9,t7,t8,HX7⟩:=HAP2.out _ _ hown4 hgrow4;clear hown4 hgrow4 hwh4)|(go_simp;go_at_call 50;refine HBL.out.mono ?_;rintro q W2 ⟨rfl,tb2,e2,hT2,hK2⟩;obtain⟨t0,t3,t5,t6,HOW,HAP2⟩:=HAP.out W2 tb2 e2 hT2 hK2;clear hT2 hK2 e2;try go_wp2_with fail))
     all_goals
      go_wp2_with fail
      go_roundw
      case rel=>exact⟨k+1,by go_num,by omega,HX7⟩
      case measure=>simp[intOf];omega
    ·have hmn:d.name=[109,97,105,110]:=by simpa using hm
     obtain⟨X,hX⟩:∃X,X=wr.setCell ⟨w.heap.size+1,1,none⟩ (.int .i64 d.num):=⟨_,rfl⟩
     have HZ:Hid (ko w (w.heap.size+1) w.heap.size hs.length z1 X):=by
      show ko _ _ _ _ _ _
      rw[hz1',if_pos hmn,hX]
      exact HI.out.set1 _
     clear hz1' HI
     obtain⟨gv,tb,h1,h2,h3,h4⟩:=HZ.out.ex
     obtain⟨pg,cg,rfl⟩:=ai h2
     have gx:=HG2.out.below h3.kp
     have s3:X.cell? ⟨b,3,none⟩=some (.int .i64 d.num):=gx.cell 3
     have s5:X.cell? ⟨b,5,none⟩=some (.slice pb bb.length cb):=gx.cell 5
     have q0:X.cell? ⟨w.heap.size+1,0,none⟩=some (.slice pg z1.begins.length cg):=(af h1).cell 0
     have lX:=(af h1).lt
     have hsz:=h3.kp.size
     have HBL:=aa (tD d.body w X.drew Q bb _ d.num (-1) (w.heap.size+1) w.heap.size hs.length tb HG5.out HG4.out (HOK.out.body d (List.mem_of_getElem? hd) k2) (h3.below ((Below.refl _ _).drew)))
     have HAP:Hid (∀W2 tb2,er tb2=(iF d.num d.body (-1) (er tb)).1→oA w (w.heap.size+1) w.heap.size hs.length tb2 W2→ae (ao w.heap.size) X.drew W2→W2.cell? ⟨w.heap.size+1,0,none⟩=some (.slice pg z1.begins.length cg)∧W2.cell? ⟨b,3,none⟩=some (.int .i64 d.num)∧W2.cell? ⟨b,5,none⟩=some (.slice pb bb.length cb)∧w.heap.size+1< W2.heap.size∧Hid (W2.ownsRow w.heap.size 3 1 (.slice pg z1.begins.length cg) z1.begins.length (z1.begins.map (Value.int .i64)))∧Hid (∀v4 w4,w4.ownsRow w.heap.size 3 1 v4 (z1.begins.length+1) (z1.begins.map (Value.int .i64)++[.int .i64 (iF d.num d.body (-1) (er tb)).2])→(W2.alloc (.cells #[.int .i64 (iF d.num d.body (-1) (er tb)).2] 3)).grownBy w4 (Value.slice pg z1.begins.length cg).ownBlock→w4.cell? ⟨w.heap.size+1,0,none⟩=some (.slice pg z1.begins.length cg)∧w4.frozen? ⟨w.heap.size+1,0,none⟩=false∧w.heap.size+1< w4.heap.size∧(w4.cell? ⟨b,3,none⟩=some (.int .i64 d.num)∧w4.cell? ⟨b,5,none⟩=some (.slice pb bb.length cb))∧((w4.setCell ⟨w.heap.size+1,0,none⟩ v4).cell? ⟨b,3,none⟩=some (.int .i64 d.num)∧(w4.setCell ⟨w.heap.size+1,0,none⟩ v4).cell? ⟨b,5,none⟩=some (.slice pb bb.length cb))∧Hid (ko w (w.heap.size+1) w.heap.size hs.length ((l.take (k+1)).foldl oq {T:=List.replicate hs.length none}) (w4.setCell ⟨w.heap.size+1,0,none⟩ v4)))):=fun W2 tb2 e2 hT2 hK2=>by
      have hK2':ae (ao w.heap.size) X W2:=⟨hK2.os,hK2.tape,hK2.output,hK2.size,hK2.block⟩
      obtain⟨m1,m2⟩:=ko.mid h1 h2 h3 hK2'
      have g2:=HG2.out.below hT2.kp
      refine⟨(af m1).cell 0,g2.cell 3,g2.cell 5,(af m1).lt,m2,fun v4 w4 ho hg4=>?_⟩
      obtain⟨⟨p1,p2,p3⟩,p4,p5,p6⟩:=ko.app m1 m2 hT2 ho hg4
      have g4:=HG2.out.below p4
      have g5:=HG2.out.below p5
      refine⟨p1,p2,p3,⟨g4.cell 3,g4.cell 5⟩,⟨g5.cell 3,g5.cell 5⟩,?_⟩
      show ko _ _ _ _ _ _
      rw[HFD.out,←h4,←e2]
      exact p6
     clear h1 h2 h3 h4 gx HZ
     have HX:=aa hX
     clear hX
     go_wp2_with fail
     rw[←HX.out]
     go_region_law (first|(refine aA rfl (.tmp 56) (.tmp 68) 34 rfl w.heap.size 3 i1 (.int .i64 0) 1 8 Tryz.underlying34 hj hj0 hj1 hj2 rfl (by decide) _ _ _ (by simp[Act.eval,Act.put]) (HOW.out.alloc _) ⟨W2.heap.size,0,none⟩ 1 1 [.int .i64 (iF d.num d.body (-1) (er tb)).2] (by simp[Act.eval,Act.put]) rfl (aF _ _ _ _ (by simp)) (by intro u hu;simp at hu;subst hu;rfl) (by decide) (by have:=HZB.out;unfold maxLen;omega) (by have:=HZB.out;omega) (by simp;omega) ?_;intro v4 w4 hown4 hgrow4 hwh4;obtain⟨p4,k4,rfl⟩:=ai hown4;obtain⟨t9,f9,l9,t7,t8,HX7⟩:=HAP2.out _ _ hown4 hgrow4;clear hown4 hgrow4 hwh4)|(go_simp;go_at_call 50;refine HBL.out.mono ?_;rintro q W2 ⟨rfl,tb2,e2,hT2,hK2⟩;obtain⟨t0,t3,t5,t6,HOW,HAP2⟩:=HAP.out W2 tb2 e2 hT2 hK2;clear hT2 hK2 e2;try go_wp2_with fail))
     all_goals
      go_wp2_with fail
      go_roundw
      case rel=>exact⟨k+1,by go_num,by omega,HX7⟩
      case measure=>simp[intOf];omega
   ·have e1:((d.kind:Int)==1)=false:=by rw[beq_eq_false_iff_ne];omega
    have e2:((d.kind:Int)==2)=false:=by rw[beq_eq_false_iff_ne];omega
    have HN:Hid (ko w (w.heap.size+1) w.heap.size hs.length ((l.take (k+1)).foldl oq {T:=List.replicate hs.length none}) wr):=by
     show ko _ _ _ _ _ _
     rw[HTK.out,oq,if_neg k1,if_neg k2]
     exact HI.out
    clear h1 h2 h3 h4 g1 g2 g3 g4 g5 g6 bw gw
    go_wp2_with fail
    go_roundw
    case rel=>exact⟨k+1,by go_num,by omega,HN⟩
    case measure=>simp[intOf];omega
end
section
open Go.RowKit Go.Shelf
instance exOpt{o:Option Nat}{P:Nat→Prop}[∀R,Decidable (P R)]:Decidable (∃R,o=some R∧P R):=
 match o with
 |none=>isFalse (fun⟨_,h,_⟩=>by cases h)
 |some r=>decidable_of_iff (P r) ⟨fun h=>⟨r,rfl,h⟩,fun⟨_,h,k⟩=>by cases h;exact k⟩
instance(x:Rp):Decidable (ei x):=decidable_of_iff (x.ends≤48∧x.stmts.length≤53∧∀s,s< x.stmts.length→(x.st s).fn< 5∧((x.st s).nx=-1∨(0≤(x.st s).nx∧(x.st s).nx≤48))∧((x.st s).ins=-1∨(0≤(x.st s).ins∧(x.st s).ins≤48))) ⟨fun⟨a,b,c⟩=>⟨a,b,c⟩,fun h=>⟨h.1,h.2,h.3⟩⟩
instance(x:Rp):Decidable (ci x):=decidable_of_iff (x.spots< bI∧∀i,i< 64→x.spots.testBit i=true→i< x.stmts.length) ⟨fun⟨a,b⟩=>⟨a,b⟩,fun h=>⟨h.1,h.2⟩⟩
instance(x:Rp):Decidable (qU x):=decidable_of_iff ((∀f,f< x.begins.length→x.wholeO f=some (x.wholeD f))∧(∀s,s< x.stmts.length→(x.isCall s||x.isStart s)=true→(x.st s).p.nn< x.begins.length)∧x.main< x.begins.length∧x.begins.length< 64) ⟨fun⟨a,b,c,d⟩=>⟨a,b,c,d⟩,fun h=>⟨h.1,h.2,h.3,h.4⟩⟩
instance(x:Rp):Decidable (jH x):=decidable_of_iff ((∀s,s< 64→x.spots.testBit s=true→x.nextOf s< bI∧∃R,bK x.nextOf 70 (x.nextOf s) (x.nextOf s)=some R∧∀i,i< 64→R.testBit i=true→i< x.stmts.length)∧∀k,k< x.starts.length→x.starts.getD k 0< x.stmts.length) ⟨fun⟨a,b⟩=>⟨a,b⟩,fun h=>⟨h.1,h.2⟩⟩
instance(x:Rp):Decidable (yS x):=decidable_of_iff ((∀k,k< x.starts.length→x.withinOf k< bI)∧(∀k,k< x.starts.length→bK x.withinOf 70 (x.withinOf k) (x.withinOf k)=some (x.belowOf k))∧(∀k,k< x.starts.length→∀i,i< 64→(x.belowOf k).testBit i=true→i< x.starts.length)∧x.runs.length=x.starts.length+1∧x.starts.length< 60) ⟨fun⟨a,b,c,d,e⟩=>⟨a,b,c,d,e⟩,fun h=>⟨h.1,h.2,h.3,h.4,h.5⟩⟩
instance(s:Fs):Decidable (gM s):=decidable_of_iff (s.fn< 5∧s.p.ln< 6∧s.p.side< 2∧s.p.nn< 5∧s.r.length≤6∧∀a,a∈s.r→a.num< 6) ⟨fun⟨a,b,c,d,e,f⟩=>⟨a,b,c,d,e,f⟩,fun h=>⟨h.1,h.2,h.3,h.4,h.5,h.6⟩⟩
instance(x:Rp)(f:Nat→Option Nat)(s:Nat):Decidable (sY x f s):=decidable_of_iff (s< x.stmts.length∧gM (x.st s)∧s< 64∧x.starts.length< 64∧(((x.st s).p.kind=1∧(x.st s).p.op=0∧0< (x.st s).r.length)∨((x.st s).p.kind=2∧(x.st s).a0.num< 5∧0< (x.st s).r.length)∨((x.st s).p.kind=3∧(x.st s).p.ln< 5∧0< (x.st s).r.length)∨((x.st s).p.kind=4∧0< (x.st s).r.length)∨((x.st s).p.kind=5∧0< (x.st s).r.length)∨((x.st s).p.kind=6∧∃m,f s=some m∧m< 6)∨((x.st s).p.kind=7∧∃m,x.startAt s=some m∧m< 64)∨((x.st s).p.kind=12∧(x.st s).r.length=0)∨(x.st s).p.kind=8∨(x.st s).p.kind=9∨(x.st s).p.kind=10∨(x.st s).p.kind=13∨(x.st s).p.kind=14)) ⟨fun⟨a,b,c,d,e⟩=>⟨a,b,c,d,e⟩,fun h=>⟨h.1,h.2,h.3,h.4,h.5⟩⟩
instance(n:Nat)(l:List Nat):Decidable (Wd n l):=decidable_of_iff (l.length=n∧∀a∈l,a< bI) ⟨fun⟨a,b⟩=>⟨a,b⟩,fun h=>⟨h.1,h.2⟩⟩
theorem zL{l:List Nat}(h:Wd 104 l)(k:∀j,j< 52→l.getD (2*j) 0< 64):iI l:=⟨h,fun j=>by
 by_cases hj:j< 52
 ·exact k j hj
 ·rw[List.getD_eq_getElem?_getD,List.getElem?_eq_none (by have:=h.len;omega)];decide⟩
instance(l:List Nat):Decidable (iI l):=decidable_of_iff (Wd 104 l∧∀j,j< 52→l.getD (2*j) 0< 64) ⟨fun⟨a,b⟩=>zL a b,fun h=>⟨h.1,fun j _=>h.2 j⟩⟩
instance(x:Rp)(acs:List Ac):Decidable (ry x acs):=decidable_of_iff (acs.length≠0∧acs.length< 1000∧(dh acs).length≤4000∧∀a∈acs,a.spot< x.stmts.length) ⟨fun⟨a,b,c,d⟩=>⟨a,b,c,d⟩,fun h=>⟨h.1,h.2,h.3,h.4⟩⟩
instance(l:List Pd)(n:Nat):Decidable (rx l n):=decidable_of_iff ((∀d∈l,d.kind=2→zK n d.body=true)∧(∀o∈(Bs l n).T,o.isSome=true)∧l.length< 1000∧n< 1000000∧0< n) ⟨fun⟨a,b,c,d,e⟩=>⟨a,b,c,d,e⟩,fun h=>⟨h.1,h.2,h.3,h.4,h.5⟩⟩
namespace Fl
def cS(y:Fl):Nat:=(bK (y.r2 y.stmts.length).comeOf 70 (aC (y.sp y.main)) (aC (y.sp y.main))).getD 0
def cE(y:Fl):Nat:=((y.r3 y.cS).enteredO (y.r3 y.cS).againS).getD 0
def cT(y:Fl):Nat:=(y.r3 y.cS).twiceOf y.cE
def cR(y:Fl):List Nat:=(y.r4 y.cS y.cT).runsL
def cB(y:Fl):List Nat:=(y.r5 y.cS y.cT y.cR).belowL
def cX(y:Fl):Rp:=y.r6 y.cS y.cT y.cR y.cB
end Fl
instance(y:Fl)(S ent t:Nat)(rs bl:List Nat):Decidable (xf y S ent t rs bl):=decidable_of_iff (0< y.stmts.length∧y.begins.length≤5∧(∀f,f< y.begins.length→y.begins.getD f 0=-1∨(0≤y.begins.getD f 0∧y.begins.getD f 0≤48))∧y.main< y.begins.length∧ei (y.r2 y.stmts.length)∧bK (y.r2 y.stmts.length).comeOf 70 (aC (y.sp y.main)) (aC (y.sp y.main))=some S∧(∀s,s< (y.r2 y.stmts.length).stmts.length→((y.r2 y.stmts.length).isCall s||(y.r2 y.stmts.length).isStart s)=true→((y.r2 y.stmts.length).st s).p.nn< y.begins.length)∧ci (y.r3 S)∧jH (y.r3 S)∧(y.r3 S).enteredO (y.r3 S).againS=some ent∧(y.r3 S).twiceOf ent=t∧qU (y.r4 S t)∧(y.r4 S t).runsL=rs∧yS (y.r5 S t rs)∧(y.r5 S t rs).belowL=bl∧(y.r2 y.stmts.length).starts.length< 60)
 ⟨fun⟨a,b,c,d,e,f,g,h,i,j,k,l,m,n,o,p⟩=>⟨a,b,c,d,e,f,g,h,i,j,k,l,m,n,o,p⟩,fun h=>⟨h.1,h.2,h.3,h.4,h.5,h.6,h.7,h.8,h.9,h.10,h.11,h.12,h.13,h.14,h.15,h.16⟩⟩
namespace Rp
def cC(x:Rp):List Nat:=(aM (x.roundG (x.madeF x.stmts.length)) 100 (List.replicate 104 0)).getD []
def cSh(x:Rp)(cs:List Nat):Nat:=(bK (yZ cs) 70 (x.firstH cs).1 (x.firstH cs).1).getD 0
def cHeld(x:Rp):List Nat:=(aM (x.passM x.heldB x.spots) 100 (x.hf3 (cj (aC x.mutexes)))).getD []
def cAbout(x:Rp)(cs:List Nat):List Nat:=(aM (x.passS (x.aboutB cs) x.mainS) 100 (List.replicate 53 0)).getD []
end Rp
def yP(y:Fl)(x:Rp):Prop:=
 (xf y y.cS y.cE y.cT y.cR y.cB)∧ei x∧ci x∧qU x∧jH x∧(∀s,s< 64→x.spots.testBit s=true→sY x (x.madeF x.stmts.length) s)∧x.stmts.length≤53∧0< x.stmts.length∧(∀s,s< x.stmts.length→gM (x.st s))∧x.starts.length< 60
def yO(x:Rp)(cs:List Nat)(sh:Nat):Prop:=
 aM (x.roundG (x.madeF x.stmts.length)) 100 (List.replicate 104 0)=some cs∧iI cs∧bK (yZ cs) 70 (x.firstH cs).1 (x.firstH cs).1=some sh∧(x.firstH cs).1< bI∧sh< 64∧x.mutexes< 64
def yN(x:Rp):Prop:=
 (∀s,s< x.stmts.length→(x.st s).p.nn< 64)∧(∀s,s< 64→x.spots.testBit s=true→s< 53∧x.isCall s=false)∧(∀f,f< x.begins.length→x.begins.getD f 0< 53)∧(∀s,s< x.stmts.length→x.isStart s=true→(x.st s).p.nn< x.begins.length)∧
 (∀s,s< 64→x.spots.testBit s=true→∀t,t< 64→(x.nextOf s).testBit t=true→t< 53)∧x.runs.length=x.starts.length+1∧x.below.length=x.starts.length
def yM(x:Rp):Prop:=
 (∀s,s< x.stmts.length→(x.st s).fn< 5)∧(∀s,s< x.stmts.length→(x.st s).p.kind=8→0< (x.st s).r.length∧((x.st s).r.getD 0 ⟨[],0,0,0⟩).num< 6)∧(∀k,k< x.starts.length→x.startAt (x.starts.getD k 0)≠none)∧(∀s,s< x.stmts.length→(x.st s).p.kind=2∨(x.st s).p.kind=4→0< (x.st s).r.length)
def yL(x:Rp)(cs held about:List Nat):Prop:=
 aM (x.passM x.heldB x.spots) 100 (x.hf3 (cj (aC x.mutexes)))=some held∧Wd 53 held∧aM (x.passS (x.aboutB cs) x.mainS) 100 (List.replicate 53 0)=some about∧Wd 53 about
instance(y:Fl)(x:Rp):Decidable (yP y x):=by unfold yP;infer_instance
instance(x:Rp)(cs:List Nat)(sh:Nat):Decidable (yO x cs sh):=by unfold yO;infer_instance
instance(x:Rp):Decidable (yN x):=by unfold yN;infer_instance
instance(x:Rp):Decidable (yM x):=by unfold yM;infer_instance
instance(x:Rp)(cs held about:List Nat):Decidable (yL x cs held about):=by unfold yL;infer_instance
def te(l:aj):Nat→aI→List aI
 |0,_=>[]
 |k+1,t=>t::(if de t then[]else te l k (tr l t))
def fD(l:aj):List aI:=te l (l.length+1) (el l (dO l 0))
def qA(l:aj):Option (List Pd×List Ph):=match du ((be (fD l)).1.map ik)with
 |.ok z=>some z
 |.error _=>none
def fc(l:aj):Fl:=match qA l with
 |some (l3,hs)=>(Bs l3 hs.length).fl
 |none=>{}
def mc(l:aj):List jp:=(fc l).cX.repsOf (fc l).cX.cHeld ((fc l).cX.cAbout (fc l).cX.cC) (dh ((fc l).cX.accs (fc l).cX.cC ((fc l).cX.cSh (fc l).cX.cC)))
end
section
set_option maxRecDepth 100000
set_option maxHeartbeats 2000000
open Go.RowKit Go.Shelf
theorem yd:∀(l:List Nat) (v k:Nat),lA l v=some k→k< l.length:=by
 intro l
 induction l with
 |nil=>intro v k h;simp[lA]at h
 |cons a l ih=>
  intro v k h
  rw[lA]at h
  split at h
  ·cases h;simp
  ·cases e:lA l v with
   |none=>rw[e]at h;cases h
   |some m=>
    rw[e]at h
    cases h
    have:=ih v m e
    simp
    omega
theorem va{l:aj}{ts:List aI}(h:eG l ts):∀(k j:Nat) (t:aI),ts[j]?=some t→ts.length≤j+k→te l k t=ts.drop j:=by
 intro k
 induction k with
 |zero=>
  intro j t e hl
  have:=(List.getElem?_eq_some_iff.1 e).1
  omega
 |succ k ih=>
  intro j t e hl
  have hj:=(List.getElem?_eq_some_iff.1 e).1
  have hd:ts.drop j=t::ts.drop (j+1):=by
   rw[List.drop_eq_getElem_cons hj]
   congr 1
   rw[List.getElem?_eq_getElem hj]at e
   exact Option.some.inj e
  rw[te,hd]
  congr 1
  cases hf:de t with
  |true=>
   rw[if_pos rfl,List.drop_eq_nil_of_le (by have:=h.last j t e hf;omega)]
  |false=>
   rw[if_neg (by decide)]
   exact ih (j+1) _ (h.next j t e hf) (by omega)
theorem tK(l:aj):eG l (fD l):=by
 obtain⟨ts,h⟩:=xu l
 have:fD l=ts:=by
  unfold fD
  rw[va h _ 0 _ h.first (by have:=h.len;omega)]
  rfl
 rw[this]
 exact h
structure mS(l:aj)(want:List jp):Prop where
 len:l.length≤700
 read:(be (fD l)).2.v.ok=true
 pds:vG ((be (fD l)).1.map ik)=true
 ld:(qA l).isSome=true
 flw:match qA l with|some z=>rx z.1 z.2.length|none=>False
 d1:yP (fc l) (fc l).cX
 d2:yO (fc l).cX (fc l).cX.cC ((fc l).cX.cSh (fc l).cX.cC)
 d3:yN (fc l).cX
 d4:yM (fc l).cX
 d5:yL (fc l).cX (fc l).cX.cC (fc l).cX.cHeld ((fc l).cX.cAbout (fc l).cX.cC)
 al:ry (fc l).cX ((fc l).cX.accs (fc l).cX.cC ((fc l).cX.cSh (fc l).cX.cC))
 reps:mc l=want
theorem mS.nr{l:aj}{want:List jp}(h:mS l want):sT (fc l) (fc l).cX (fc l).cX.cC (fc l).cX.cHeld ((fc l).cX.cAbout (fc l).cX.cC) ((fc l).cX.cSh (fc l).cX.cC):=by
 obtain⟨a1,a2,a3,a4,a5,a6,a7,a8,a9,a10⟩:=h.d1
 obtain⟨b1,b2,b3,b4,b5,b6⟩:=h.d2
 obtain⟨c1,c2,c3,c4,c5,c6,c7⟩:=h.d3
 obtain⟨e1,e2,e3,e4⟩:=h.d4
 obtain⟨f1,f2,f3,f4⟩:=h.d5
 exact{of:=⟨_,_,_,_,_,a1,rfl⟩,ok:=a2,sp:=a3,wh:=a4,ag:=a5,dok:=a6,n60:=a7,n0:=a8,so:=a9,sm:=a10,set:=⟨_,b1⟩,okc:=b2,shr:=b3,fh:=b4,sh6:=b5,mu:=b6,nn:=c1,s53:=c2,b53:=c3,nst:=c4,nx:=fun s t hs hb ht hbt=>c5 s hs hb t ht hbt,hset:=⟨_,f1⟩,hw:=f2,rn:=c6,bw:=c7,fn:=e1,jn:=e2,sk:=fun s k hk=>yd _ _ _ hk,aset:=⟨_,f3⟩,aw:=f4,rr:=e4}
theorem tT{w:World}{l:aj}{l3:List Pd}{hs:List Ph}(hl:l.length≤700)(h0:(be (fD l)).2.v.ok=true)(h1:vG ((be (fD l)).1.map ik)=true)(h2:qA l=some (l3,hs)):
  Calls Tryz.prog 7 #[.string ⟨l.toArray⟩] w fun r w'=>Below w.heap.size w w'∧∃bx bq,r=.returned (.tuple #[ak bx,.int .i64 0,.int .i64 0])∧an w' bx #[ak bq]∧gF w w' l3 hs bq:=by
 have hr:du ((be (fD l)).1.map ik)=.ok (l3,hs):=by
  unfold qA at h2
  split at h2
  ·rename_i e;rw[e];cases h2;rfl
  ·cases h2
 have HC:=aa (zB h0 hr (xJ h1) (w:=w) (s:=⟨l.toArray⟩) (ts:=fD l) (tK l) (by simpa[ByteArray.size]using hl))
 go_enter Tryz.func7,Tryz.ntmps7
 go_wp2_with fail
 refine HC.out.mono ?_
 rintro r w1 ⟨hb1,bq,rfl,hq,hG⟩
 ·have HX:=aa (And.intro hb1 hG)
  clear hb1 hG HC
  go_wp2_with fail
  refine bodyPost_ret (v:=.tuple #[ak w1.heap.size,.int .i64 0,.int .i64 0]) (by simp[results,Tryz.results7,go_sem]) rfl ⟨HX.out.1.alloc HX.out.1.size _,_,bq,rfl,an.new _ _ _,?_⟩
  exact HX.out.2.keep (S:=fun _=>False) ((ae.refl _ _).alloc _) (fun _ _ e=>e) (fun e=>e) (Nat.le_refl _)
theorem vr(l:List dd)(k j:Nat)(hj:j< 8):(fV l)[k*8+j]?=(l[k]?).bind (fun x=>(fE x.1 x.2.1 x.2.2)[j]?):=by
 induction l generalizing k with
 |nil=>simp[fV]
 |cons a l ih=>
  have e:fV (a::l)=(fE a.1 a.2.1 a.2.2).toList++fV l:=rfl
  have hl:(fE a.1 a.2.1 a.2.2).toList.length=8:=rfl
  rw[e]
  cases k with
  |zero=>rw[List.getElem?_append_left (by omega)];simp
  |succ k=>rw[List.getElem?_append_right (by omega),hl,show(k+1)*8+j-8=k*8+j by omega,ih];simp
theorem mG{w:World}{B n g c:Nat}{xs:List dd}(h:w.ownsRow B 36 8 (.slice (some ⟨g,0,none⟩) n c) n (fV xs)){k:Nat}{x:dd}(e:xs[k]?=some x):jk w g (k*8) x:=by
 have hc:∀j,j< 8→(fV xs)[k*8+j]?=(fE x.1 x.2.1 x.2.2)[j]?:=fun j hj=>by rw[vr xs k j hj,e];rfl
 exact⟨cZ h (hc 0 (by omega)),cZ h (hc 1 (by omega)),cZ h (hc 2 (by omega)),cZ h (hc 3 (by omega)),cZ h (hc 4 (by omega)),cZ h (hc 5 (by omega)),cZ h (hc 6 (by omega)),cZ h (hc 7 (by omega))⟩
end
section
set_option maxRecDepth 100000
set_option maxHeartbeats 4000000
open Go.RowKit Go.Shelf
theorem Bk{w:World}{k n:Nat}{l:aj}{want:List jp}(hN:Calls Tryz.prog 6 #[.int .i64 k,.int .i64 n] w fun r w'=>∃lv,r=.returned (.agg #[.string ⟨l.toArray⟩,lv])∧∃xs:List dd,xs.map (·.1)=want∧dS w w' lv xs)(ok:mS l want)(hT:Tz w)(hg:0< w.heap.size)(hwl:want.length< 1000):
  Calls Tryz.prog 4 #[.int .i64 k,.int .i64 n] w fun r w'=>r=.returned (.bool true)∧Below w.heap.size w w':=by
 have HN:=aa hN
 have HOK:=aa ok
 have HT:=aa hT
 clear hN ok hT
 go_enter Tryz.func4,Tryz.ntmps4
 go_wp2_with fail
 refine HN.out.mono ?_
 rintro q w1 ⟨lv,rfl,xk,hxk,hRK⟩
 have HRK:=aa hRK
 have HXK:=aa hxk
 have hz1:=hRK.kp.size
 have hown:=hRK.own
 have hkl:xk.length=want.length:=by rw[←hxk,List.length_map]
 rw[hkl]at hown
 obtain⟨N,hN⟩:∃N,N=want.length:=⟨_,rfl⟩
 rw[←hN]at hown
 obtain⟨pk,ck,rfl⟩:=ai hown
 obtain⟨D,hD⟩:∃D,D=w1.alloc (.cells #[.string ⟨l.toArray⟩,.slice pk N ck] 26):=⟨_,rfl⟩
 have kD:Below w1.heap.size w1 D:=by rw[hD];exact(Below.refl _ _).alloc (Nat.le_refl _) _
 have kwD:Below w.heap.size w D:=hRK.kp.trans (kD.mono hz1)
 have hDb:D.heap[w1.heap.size]?=some (.cells #[.string ⟨l.toArray⟩,.slice pk N ck] 26 (0,0)):=by rw[hD];exact heap_alloc_new _ _
 obtain⟨⟨l3,hs⟩,hld⟩:=Option.isSome_iff_exists.1 HOK.out.ld
 have HP:=aa (tT (w:=D) HOK.out.len HOK.out.read HOK.out.pds hld)
 have HLD:=aa hld
 clear hld
 have HDB:=aa hDb
 have HKD:=aa kD
 have HKWD:=aa kwD
 have HD:=aa hD
 have HOWN:=aa hown
 have HNW:=aa hN
 have hNl:N< 1000:=by omega
 clear hRK hxk hD kD kwD hDb HN hown hkl hN
 go_wp2_with fail
 rw[←HD.out]
 refine HP.out.mono ?_
 rintro q W2 ⟨hb2,bx,bq,rfl,hbx,hRT⟩
 obtain⟨bp,hbq,hRes⟩:=hRT
 have hld:=HLD.out
 have hy:fc l=(Bs l3 hs.length).fl:=by unfold fc;rw[hld]
 have hflw:rx l3 hs.length:=by have:=HOK.out.flw;rw[hld]at this;exact this
 have kw2:Below w.heap.size w W2:=HKWD.out.trans (hb2.mono HKWD.out.size)
 have HRP:=aa (qB (w:=W2) bx bq bp ((fc l).cX.cSh (fc l).cX.cC) (fun V hV=>by
  have:=Aj (hRes.keep (w':=V) (P':=fun _=>True) (S:=fun _=>False) (ae.of_below hV) (fun _ _=>⟨fun h=>h,trivial⟩)) hflw
  rw[←hy]at this
  exact this) HOK.out.nr HOK.out.al (HT.out.below kw2) (Nat.lt_of_lt_of_le hg kw2.size) (hbx.cell 0) (hbq.cell 0))
 have HB2:=aa hb2
 have HK2:=aa kw2
 have lx:=hbx.lt
 clear hbx hbq hRes hld hy hflw hb2 kw2 HP HD
 go_wp2_with fail
 refine HRP.out.mono ?_
 rintro q W3 ⟨lr,rfl,xr,hxr,hRR⟩
 have hxw:xr.map (·.1)=want:=hxr.trans HOK.out.reps
 have hown:=hRR.own
 have hrl:xr.length=want.length:=by rw[←hxw,List.length_map]
 rw[hrl,←HNW.out]at hown
 obtain⟨pr,cr,rfl⟩:=ai hown
 have k3:Below D.heap.size D W3:=HB2.out.trans (hRR.kp.mono HB2.out.size)
 have hD3:=(k3.block _ (Array.getElem?_eq_some_iff.1 HDB.out).1).trans HDB.out
 have c1:W3.cell? ⟨w1.heap.size,1,none⟩=some (.slice pk N ck):=(af hD3).cell 1
 have l1:=(af hD3).lt
 have HOR:=aa hown
 have HRR:=aa hRR
 have HK3:=aa k3
 have HXW:=aa hxw
 have HRL:=aa hrl
 clear hown hrl hxr hxw k3 hD3 hRR HRP lx
 go_wp2_with fail
 have HKF:Hid (Below w.heap.size w W3):=HKWD.out.trans (HK3.out.mono HKWD.out.size)
 go_loopw [10] (fun i wr=>∃j:Nat,i=.int .i64 j∧j≤N∧Hid (∃m,wr=W3.drewN m)) (fun i _=>N-(intOf i).toNat)
 case atStart=>exact⟨0,rfl,Nat.zero_le _,0,rfl⟩
 case round=>
  obtain⟨j,rfl,hj,HM⟩:=hrel
  by_cases hjN:j=N
  ·have hlt:¬((j:Int)< (N:Int)):=by omega
   go_wp2_with fail
   go_ret
   obtain⟨m,e⟩:=HM.out
   rw[e]
   exact⟨rfl,az HKF.out _⟩
  ·have hlt:(j:Int)< (N:Int):=by omega
   have hj0:(0:Int)≤j:=by omega
   obtain⟨gk,ck',e⟩:=aG HOWN.out (by omega)
   cases e
   obtain⟨gr,cr',e⟩:=aG HOR.out (by omega)
   cases e
   obtain⟨m,hm⟩:=HM.out
   have kk:Below W3.heap.size W3 wr:=by rw[hm];exact az (Below.refl _ _) _
   have kk1:Below w1.heap.size w1 wr:=HKD.out.trans ((HK3.out.trans (kk.mono HK3.out.size)).mono HKD.out.size)
   have hxkl:j< xk.length:=by have:=congrArg List.length HXK.out;simp at this;have:=HNW.out;omega
   have hxrl:j< xr.length:=by have:=HRL.out;have:=HNW.out;omega
   obtain⟨⟨r,la,lb⟩,hxr⟩:∃x,xr[j]?=some x:=⟨_,List.getElem?_eq_getElem hxrl⟩
   obtain⟨⟨r',la',lb'⟩,hxk⟩:∃x,xk[j]?=some x:=⟨_,List.getElem?_eq_getElem hxkl⟩
   have hrr:r=r':=by
    have e1:(xr.map (·.1))[j]?=some r:=by rw[List.getElem?_map,hxr];rfl
    have e2:(xk.map (·.1))[j]?=some r':=by rw[List.getElem?_map,hxk];rfl
    rw[HXW.out,←HXK.out,e2]at e1
    exact(Option.some.inj e1).symm
   subst hrr
   have A1:=mG (ay HOR.out kk) hxr
   have A2:=mG (ay HOWN.out kk1) hxk
   have G1:=(HRR.out.g _ (List.mem_of_getElem? hxr)).below kk
   have G2:=(HRK.out.g _ (List.mem_of_getElem? hxk)).below kk1
   have HA:Hid (∀n,Calls Tryz.prog 9 #[.pointer (some ⟨gr,j*8,none⟩),.pointer (some ⟨gk,j*8,none⟩)] (wr.drewN n) fun e w'=>e=.returned (.bool true)∧∃m,w'=(wr.drewN n).drewN m):=fun n=>Aa (A1.below (az (Below.refl _ _) n)) (A2.below (az (Below.refl _ _) n)) (G1.below (az (Below.refl _ _) n)) (G2.below (az (Below.refl _ _) n))
   have c2:wr.cell? ⟨w1.heap.size,1,none⟩=some (.slice (some ⟨gk,0,none⟩) N ck):=(kk.cell (p:=⟨w1.heap.size,1,none⟩) l1).trans c1
   have l2:=ah c2
   have HM2:Hid (∀q,∃m,wr.drewN q=W3.drewN m):=fun q=>⟨m+q,by rw[hm,World.drewN_drewN]⟩
   clear hm kk kk1 A1 A2 G1 G2 hxr hxk hxkl hxrl HM
   go_wp2_with fail
   go_quiet ((go_at_call 9;exact Calls.quiet_of (HA.out _)))
   go_wp2_with fail
   go_roundw
   case rel=>exact⟨j+1,by go_num,by omega,HM2.out _⟩
   case measure=>simp[intOf];omega
end
section
open Go.RowKit Go.Shelf
instance(a b:jp):Decidable (a=b):=decidable_of_iff (a.a=b.a∧a.b=b.b∧a.new=b.new∧a.field=b.field∧a.ra=b.ra∧a.rb=b.rb∧a.la=b.la∧a.lb=b.lb) ⟨fun⟨h1,h2,h3,h4,h5,h6,h7,h8⟩=>by cases a;cases b;simp only at h1 h2 h3 h4 h5 h6 h7 h8;subst h1 h2 h3 h4 h5 h6 h7 h8;rfl,fun h=>by subst h;exact⟨rfl,rfl,rfl,rfl,rfl,rfl,rfl,rfl⟩⟩
def gj(l:aj)(want:List jp):Bool:=
 decide (l.length≤700)&&(be (fD l)).2.v.ok&&vG ((be (fD l)).1.map ik)&&(match qA l with|some z=>decide (rx z.1 z.2.length)|none=>false)&&decide (yP (fc l) (fc l).cX)&&decide (yO (fc l).cX (fc l).cX.cC ((fc l).cX.cSh (fc l).cX.cC))&&decide (yN (fc l).cX)&&decide (yM (fc l).cX)&&decide (yL (fc l).cX (fc l).cX.cC (fc l).cX.cHeld ((fc l).cX.cAbout (fc l).cX.cC))&&decide (ry (fc l).cX ((fc l).cX.accs (fc l).cX.cC ((fc l).cX.cSh (fc l).cX.cC)))&&decide (mc l=want)
theorem ve{l:aj}{want:List jp}(h:gj l want=true):mS l want:=by
 unfold gj at h
 simp only[Bool.and_eq_true,decide_eq_true_eq]at h
 obtain⟨⟨⟨⟨⟨⟨⟨⟨⟨⟨h1,h2⟩,hp⟩,h3⟩,h4⟩,h5⟩,h6⟩,h7⟩,h8⟩,h9⟩,h10⟩:=h
 refine⟨h1,h2,hp,?_,?_,h4,h5,h6,h7,h8,h9,h10⟩
 ·cases e:qA l with
  |none=>rw[e]at h3;cases h3
  |some z=>rfl
 ·cases e:qA l with
  |none=>rw[e]at h3;cases h3
  |some z=>
   rw[e]at h3
   exact of_decide_eq_true h3
end
end Go.Proofs.YtmdaflepdaiabaaGreatDoor
