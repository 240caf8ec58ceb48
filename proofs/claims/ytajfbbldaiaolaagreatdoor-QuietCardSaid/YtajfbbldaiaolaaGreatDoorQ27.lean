import Derived.Test.YtajfbbldaiaolaaGreatDoorQ26
set_option linter.unusedSimpArgs false
set_option linter.unusedVariables false
set_option maxRecDepth 100000
set_option maxHeartbeats 2000000
namespace Go.Proofs.YtajfbbldaiaolaaGreatDoor
open Go.RowKit Go.Shelf
variable {a g n:Nat}{w:World}
theorem Cu{P:Nat->Prop}{L:List Nat}{A:List Ph}(h:ib w P L A):L.length=A.length:=by
 induction h with
 |nil=>rfl
 |cons _ _ _ ih=>simp[ih]
theorem Cf(n:Nat):madeCells (Value.agg #[.pointer none,aB 0,aB 0,aB 0]).cells (n*4)=(iF (List.replicate n none)).toArray:=by
 apply Array.ext_getElem?
 intro i
 by_cases B:i< n*4
 ·have e:i=i/4*4+i%4:=by omega
  have A:=yz (List.replicate n none) (i/4) (i%4) (by omega)
  rw[<-e]at A
  rw[show(iF (List.replicate n none)).toArray[i]?=(iF (List.replicate n none))[i]? by simp,A,List.getElem?_replicate,if_pos (by omega)]
  have C:i%4=0\/i%4=1\/i%4=2\/i%4=3:=by omega
  rcases C with h|h|h|h<;>simp[madeCells,h,B,mJ,Value.cells]
 ·rw[Array.getElem?_eq_none (by rw[size_madeCells];omega),Array.getElem?_eq_none (by rw[List.size_toArray,uu,List.length_replicate];omega)]
theorem Fj(l:List Pd):∀z:Fw,(l.foldl rV z).mut_<=z.mut_+l.length:=by
 induction l with
 |nil=>intro z;simp
 |cons d l ih=>
  intro z
  rw[List.foldl_cons]
  refine Nat.le_trans (ih _) ?_
  have:(rV z d).mut_<=z.mut_+1:=by
   unfold rV
   split
   ·exact Nat.le_refl _
   ·split
    ·exact Nat.le_succ _
    ·exact Nat.le_succ _
  simp
  omega
theorem Fk(l:List Pd):∀z:Fw,(l.foldl rV z).begins.length<=z.begins.length+l.length:=by
 induction l with
 |nil=>intro z;simp
 |cons d l ih=>
  intro z
  rw[List.foldl_cons]
  refine Nat.le_trans (ih _) ?_
  have:(rV z d).begins.length<=z.begins.length+1:=by
   unfold rV
   split
   ·exact Nat.le_succ _
   ·split
    ·simp
    ·exact Nat.le_succ _
  simp
  omega
theorem nU(W:World)(b j:Nat)(v:Value):W.grownBy (W.setCell ⟨b,j,none⟩ v) (some b):=by
 have k:aC (aK b) W (W.setCell (Ad b j) v):=(aC.refl _ W).set1 _ _
 exact⟨k.os,k.tape,k.output,k.size,fun i B A=>k.block i B (fun e=>A (by rw[show i=b from e]))⟩
theorem nG.app{v u:World}{z:Fw}{y C:Value}{H:List (Option (Nat×Fs))}{i:Int}(X:v.heap[a]?=some (.cells #[y,aB z.main,aB z.mut_,.slice (some (Ad g 0)) n n] 185 (0,0)))(W:v.ownsRow w.heap.size 3 1 y z.begins.length (z.begins.map (Value.int .i64)))(B:sg w a g n H v)
  (R:u.ownsRow w.heap.size 3 1 C (z.begins.length+1) (z.begins.map (Value.int .i64)++[aB i])) (hg:(v.alloc (.cells #[aB i] 3)).grownBy u y.ownBlock):
  (u.cell? (Ad a 0)=some y/\u.frozen? (Ad a 0)=false/\a< u.heap.size)/\Bw w u/\Bw w (u.setCell ⟨a,0,none⟩ C)/\nG w a g n {z with T:=er H,begins:=z.begins++[i]} (u.setCell ⟨a,0,none⟩ C):=by
 have kA:Bw v (v.alloc (.cells #[aB i] 3)):=ba v _
 have V:=aP W kA
 have F:∀r,y.ownBlock=some r->w.heap.size<=r/\∃A G,(v.alloc (.cells #[aB i] 3)).heap[r]?=some (Obj.cells A 3 G):=fun r e=>by
  rcases V.2 with⟨rfl,_⟩|⟨g,cap,A,rfl,S,hg,_⟩
  ·cases e
  ·cases e;exact⟨S,_,_,hg⟩
 have st:∀(D:Nat) (A:Array Value) (t:TypeId) (G:Nat×Nat),v.heap[D]?=some (Obj.cells A t G)->t≠3->u.heap[D]?=some (Obj.cells A t G):=fun D A t G e J=>by
  have K:=(kA.block D (gl e)).trans e
  refine(hg.block D (gl K) (fun h=>?_)).trans K
  obtain⟨_,Z,Y,e'⟩:=F D h.symm
  rw[K]at e'
  cases e'
  exact J rfl
 have E:=st _ _ _ _ X (by decide)
 have L:=st _ _ _ _ B.row (by decide)
 have M:Bw w u:=by
  have P:=B.kp.trans (kA.mono B.kp.size)
  exact P.grown hg P.size (fun r e=>(F r e).1)
 have N:aC (aK a) u (u.setCell (Ad a 0) C):=(aC.refl _ u).set1 _ _
 have O:=aY M N B.hF
 have Q:=heap_setCell E 0 C
 refine⟨⟨(aA E).cell 0,(aA E).fz 0,(aA E).lt⟩,M,O,C,H,Q,?_,⟨(aA Q).cell 3,(N.block g (gl L) B.ne).trans L,B.len,O,B.hg,B.hF,B.ne,B.at'⟩,rfl⟩
 rw[List.map_append,List.length_append]
 exact kM R (nU u a 0 _) E (by decide)
theorem nG.mid{X v:World}{z:Fw}{y:Value}{E:List (Option (Nat×Fs))}(D:X.heap[a]?=some (.cells #[y,aB z.main,aB z.mut_,.slice (some (Ad g 0)) n n] 185 (0,0)))(C:X.ownsRow w.heap.size 3 1 y z.begins.length (z.begins.map (Value.int .i64)))(B:sg w a g n E X)(A:aC (aK g) X v):
  v.heap[a]?=some (.cells #[y,aB z.main,aB z.mut_,.slice (some (Ad g 0)) n n] 185 (0,0))/\v.ownsRow w.heap.size 3 1 y z.begins.length (z.begins.map (Value.int .i64)):=by
 refine⟨(A.block a (gl D) (fun e=>B.ne (show a=g from e).symm)).trans D,bJ C A (fun i e=>?_)⟩
 rcases C.2 with⟨rfl,_⟩|⟨H,cap,F,rfl,G,hg,_⟩
 ·cases e
 ·cases e
  exact fE hg B.row (by decide)
theorem tS:(Tryz.prog.info? 3).map (fun i=>(i.zero,i.size,i.bytes))=some (some (aB 0),1,8):=by kernel_rfl
theorem nG.set1{wr:World}{z:Fw}(h:nG w a g n z wr)(m:Nat):nG w a g n {z with main:=m} (wr.setCell ⟨a,1,none⟩ (.int .i64 m)):=by
 obtain⟨H,E,C,G,A,F⟩:=h.ex
 have B:aC (aK a) wr (wr.setCell (Ad a 1) (aB m)):=(aC.refl _ wr).set1 _ _
 have D:=heap_setCell C 1 (aB m)
 refine⟨H,E,D,kM G (nU wr a 1 _) C (by decide),⟨(aA D).cell 3,(B.block g (gl A.row) A.ne).trans A.row,A.len,aY A.kp B A.hF,A.hg,A.hF,A.ne,A.at'⟩,F⟩
theorem nG.set2{wr:World}{z:Fw}(h:nG w a g n z wr)(m:Nat):nG w a g n {z with mut_:=m} (wr.setCell ⟨a,2,none⟩ (.int .i64 m)):=by
 obtain⟨H,E,C,G,A,F⟩:=h.ex
 have B:aC (aK a) wr (wr.setCell (Ad a 2) (aB m)):=(aC.refl _ wr).set1 _ _
 have D:=heap_setCell C 2 (aB m)
 refine⟨H,E,D,kM G (nU wr a 2 _) C (by decide),⟨(aA D).cell 3,(B.block g (gl A.row) A.ne).trans A.row,A.len,aY A.kp B A.hF,A.hg,A.hF,A.ne,A.at'⟩,F⟩
theorem Iy{P:Nat->Prop}{l:List Pd}{A:List Ph}(h:Jl w P a l A)(ok:wv l A.length):
  Calls Tryz.prog 46 #[aF a] w fun r w'=>∃bF,r=.returned (aF bF)/\nH w' bF (Ky l A.length).fl/\Bw w w':=by
 obtain⟨dv,sv,b0,done,F,r1,r2,r3,r4,r5,r6,r7,r8,r9,an⟩:=h.ex
 have ay:done.length=A.length:=Cu r7
 have az:=r4.len
 rw[ay]at r3
 rw[az]at r2
 obtain⟨pd,cd,rfl⟩:=aI r2
 obtain⟨ps,cs,rfl⟩:=aI r3
 have c0:Ce w a 0 (.slice pd l.length cd):=r1.cell 0
 have c1:Ce w a 1 (.slice ps A.length cs):=r1.cell 1
 have b5:=r1.lt
 obtain⟨aj,b1,o⟩:=bY r2 r4 ok
 obtain⟨i0,hi,au,ar,aq⟩:=info_parts lu
 have b4:=ok.nm
 have ad:=run_make (P:=Tryz.prog) w 183 253 i0 _ Tryz.underlying183 hi au .i64 .i64 A.length A.length (by omega) (by omega) (by rw[aq];omega) (by omega)
 rw[ar,Int.toNat_natCast,Cf]at ad
 clear h r1 r2 r3 r4 r5 r6 r7 r8 r9 an ok
 go_in
 go_wp2_with fail
 obtain⟨W0,Z⟩:=bM ((w.alloc (Obj.cells (iF (List.replicate A.length none)).toArray 253)).alloc (.cells #[.slice none 0 0,aB 0,aB 0,.slice (some (Ad w.heap.size 0)) A.length A.length] 185))
 rw[<-Z]
 have ai:nG w (w.heap.size+1) w.heap.size A.length {T:=List.replicate A.length none} W0:=by
  have e1:=heap_alloc_new (w.alloc (Obj.cells (iF (List.replicate A.length none)).toArray 253)) (.cells #[.slice none 0 0,aB 0,aB 0,.slice (some (Ad w.heap.size 0)) A.length A.length] 185)
  rw[World.size_alloc,<-Z]at e1
  refine⟨.slice none 0 0,List.replicate A.length none,e1,World.ownsRow_nil _ _ _ _,⟨(aA e1).cell 3,?_,by simp,?_,Nat.le_refl _,by omega,by omega,fun k b s e=>?_⟩,by simp[er]⟩
  ·rw[Z];exact(Below.heap_alloc _ _ _ (by simp)).trans (heap_alloc_new _ _)
  ·rw[Z];exact(ba w _).alloc (by simp) _
  ·rw[List.getElem?_replicate]at e
   split at e<;>cases e
 have b2:=aG ai
 clear ai Z c0 c1 ad
 go_loopw [19] (fun i wr=>∃k:Nat,i=aB k/\k<=l.length/\Hid (nG w (w.heap.size+1) w.heap.size A.length ((l.take k).foldl rV {T:=List.replicate A.length none}) wr)) (fun i _=>l.length-(intOf i).toNat)
 case atStart=>exact⟨0,rfl,Nat.zero_le _,b2⟩
 case round=>
  obtain⟨k,rfl,hk,p⟩:=hrel
  by_cases ax:k=l.length
  ·have aw:¬((k:Int)< (l.length:Int)):=by omega
   go_wp2_with fail
   go_ret
   rw[ax,List.take_length]at p
   obtain⟨gv,S,O,V,M,v⟩:=p.ex
   exact⟨_,rfl,p.fin o.all o.nm,M.kp⟩
  ·have aw:(k:Int)< (l.length:Int):=by omega
   have b6:(0:Int)<=k:=by omega
   obtain⟨d,hd⟩:∃d,l[k]?=some d:=⟨_,List.getElem?_eq_getElem (by omega)⟩
   obtain⟨b,hb⟩:∃b,b0[k]?=some b:=⟨_,List.getElem?_eq_getElem (by omega)⟩
   obtain⟨sp,sb,y,Q,g1,g,g3,f,x,g6⟩:=b1.rep k b d hb hd
   obtain⟨gd,b8,e⟩:=aO aj (by omega)
   cases e
   have a4:(l.take (k+1)).foldl rV {T:=List.replicate A.length none}=rV ((l.take k).foldl rV {T:=List.replicate A.length none}) d:=by rw[List.take_add_one,hd];simp
   obtain⟨z,hz⟩:=bM ((l.take k).foldl rV {T:=List.replicate A.length none})
   have b3:z.mut_<=k:=by rw[hz];have:=Fj (l.take k) {T:=List.replicate A.length none};simp at this;omega
   have ao:z.begins.length<=k:=by rw[hz];have:=Fk (l.take k) {T:=List.replicate A.length none};simp at this;omega
   rw[<-hz]at p a4
   have a9:=aG a4
   clear hz a4
   obtain⟨gv,S,O,V,M,v⟩:=p.ex
   have b7:=o.few
   have ae:=M.kp
   have ap:Ce wr gd k (aF b):=gg (aP aj ae) (by simp[fg,hb])
   have gw:=g.below ae
   have a0:Ce wr b 0 (aB d.kind):=gw.cell 0
   have a1:Ce wr b 1 (.string ⟨d.name.toArray⟩):=gw.cell 1
   have a3:Ce wr b 3 (aB d.num):=gw.cell 3
   have a5:Ce wr b 5 sb:=gw.cell 5
   have lw:=gw.lt
   have bw:=aA O
   have q2:Ce wr (w.heap.size+1) 2 (aB z.mut_):=bw.cell 2
   have fq:∀j,wr.frozen? (Ad (w.heap.size+1) j)=false:=bw.fz
   have f2:=fq 2
   have lF:=bw.lt
   by_cases k1:d.kind=1
   ·have e1:((d.kind:Int)==1)=true:=by rw[beq_iff_eq];omega
    have HN:Hid (nG w (w.heap.size+1) w.heap.size A.length ((l.take (k+1)).foldl rV {T:=List.replicate A.length none}) (wr.setCell (Ad (w.heap.size+1) 2) (aB ((z.mut_:Int)+1)))):=by
     show nG _ _ _ _ _ _
     rw[a9.out,rV,if_pos k1]
     exact p.set2 (z.mut_+1)
    clear O V M v g1 g g3 f x g6 bw gw
    go_wp2_with fail
    go_roundw
    case rel=>exact⟨k+1,by go_num,by omega,HN⟩
    case measure=>simp[intOf];omega
   by_cases k2:d.kind=2
   ·have e1:((d.kind:Int)==1)=false:=by rw[beq_eq_false_iff_ne];omega
    have m:((d.kind:Int)==2)=true:=by rw[beq_iff_eq];omega
    obtain⟨G,L⟩:=bM ({z with main:=if d.name=[109,97,105,110]then d.num else z.main}:Fw)
    have am:Hid ((l.take (k+1)).foldl rV {T:=List.replicate A.length none}={G with T:=(jY d.num d.body (-1) G.T).1,begins:=G.begins++[(jY d.num d.body (-1) G.T).2]}):=by
     show _=_
     rw[a9.out,rV,if_neg k1,if_pos k2,L]
    have a2:Hid (G.begins.length<=k):=by show _<=_;rw[L];exact ao
    obtain⟨i1,hj,ah,ag,af⟩:=info_parts tS
    obtain⟨pb,cb,rfl⟩:=aI f.1
    obtain⟨N,al,ak⟩:=bY g f.1 x
    have q1:Ce wr (w.heap.size+1) 1 (aB z.main):=bw.cell 1
    have f1:=fq 1
    clear O V M v g1 g g3 f x g6 bw gw q2 f2 fq
    cases hm:(d.name==[109,97,105,110])
    ·have a6:d.name≠[109,97,105,110]:=fun e=>by rw[e]at hm;revert hm;decide
     have HZ:Hid (nG w (w.heap.size+1) w.heap.size A.length G wr):=by
      show nG _ _ _ _ _ _
      rw[L,if_neg a6]
      exact p
     clear L p
     obtain⟨gv,S,O,V,M,v⟩:=HZ.ex
     obtain⟨W,n,rfl⟩:=aI V
     have gx:=N.below M.kp
     have s3:Ce wr b 3 (aB d.num):=gx.cell 3
     have s5:Ce wr b 5 (.slice pb y.length cb):=gx.cell 5
     have q0:Ce wr (w.heap.size+1) 0 (.slice W G.begins.length n):=(aA O).cell 0
     have lX:=(aA O).lt
     have av:=M.kp.size
     have ab:=aG (yV d.body w wr.drew Q y _ d.num (-1) (w.heap.size+1) w.heap.size A.length S ak al (o.body d (List.mem_of_getElem? hd) k2) (M.below ((Below.refl _ _).drew)))
     have ac:Hid (∀E J,er J=(jY d.num d.body (-1) (er S)).1->sg w (w.heap.size+1) w.heap.size A.length J E->aC (aK w.heap.size) wr.drew E->Ce E (w.heap.size+1) 0 (.slice W G.begins.length n)/\Ce E b 3 (aB d.num)/\Ce E b 5 (.slice pb y.length cb)/\w.heap.size+1< E.heap.size/\Hid (E.ownsRow w.heap.size 3 1 (.slice W G.begins.length n) G.begins.length (G.begins.map (Value.int .i64)))/\Hid (∀R H,H.ownsRow w.heap.size 3 1 R (G.begins.length+1) (G.begins.map (Value.int .i64)++[aB (jY d.num d.body (-1) (er S)).2])->(E.alloc (.cells #[aB (jY d.num d.body (-1) (er S)).2] 3)).grownBy H (Value.slice W G.begins.length n).ownBlock->Ce H (w.heap.size+1) 0 (.slice W G.begins.length n)/\H.frozen? (Ad (w.heap.size+1) 0)=false/\w.heap.size+1< H.heap.size/\(Ce H b 3 (aB d.num)/\Ce H b 5 (.slice pb y.length cb))/\(Ce (H.setCell (Ad (w.heap.size+1) 0) R) b 3 (aB d.num)/\Ce (H.setCell (Ad (w.heap.size+1) 0) R) b 5 (.slice pb y.length cb))/\Hid (nG w (w.heap.size+1) w.heap.size A.length ((l.take (k+1)).foldl rV {T:=List.replicate A.length none}) (H.setCell (Ad (w.heap.size+1) 0) R)))):=fun E J m K B=>by
      have c:aC (aK w.heap.size) wr E:=⟨B.os,B.tape,B.output,B.size,B.block⟩
      obtain⟨m1,m2⟩:=nG.mid O V M c
      have g:=N.below K.kp
      refine⟨(aA m1).cell 0,g.cell 3,g.cell 5,(aA m1).lt,m2,fun R H ho a7=>?_⟩
      obtain⟨⟨p1,p2,p3⟩,p4,p5,p6⟩:=nG.app m1 m2 K ho a7
      have f:=N.below p4
      have x:=N.below p5
      refine⟨p1,p2,p3,⟨f.cell 3,f.cell 5⟩,⟨x.cell 3,x.cell 5⟩,?_⟩
      show nG _ _ _ _ _ _
      rw[am.out,<-v,<-m]
      exact p6
     clear O V M v gx HZ
     go_wp2_with fail
     go_region_law (first|(refine bD rfl (.tmp 56) (.tmp 68) 30 rfl w.heap.size 3 i1 (aB 0) 1 8 Tryz.underlying30 hj ah ag af rfl (by decide) _ _ _ (by simp[Act.eval,Act.put]) (aa.alloc _) (Ad E.heap.size 0) 1 1 [aB (jY d.num d.body (-1) (er S)).2] (by simp[Act.eval,Act.put]) rfl (cF _ _ _ _ (by simp)) (by intro u hu;simp at hu;subst hu;rfl) (by decide) (by have:=a2.out;unfold maxLen;omega) (by have:=a2.out;omega) (by simp;omega) ?_;intro R H C D Y;obtain⟨p4,k4,rfl⟩:=aI C;obtain⟨t9,f9,l9,t7,t8,a8⟩:=t _ _ C D;clear C D Y)|(go_simp;go_at_call 69;refine ab.mono ?_;rintro q E ⟨rfl,J,m,K,B⟩;obtain⟨t0,t3,t5,t6,aa,t⟩:=ac E J m K B;clear K B m;try go_wp2_with fail))
     all_goals
      go_wp2_with fail
      go_roundw
      case rel=>exact⟨k+1,by go_num,by omega,a8⟩
      case measure=>simp[intOf];omega
    ·have a6:d.name=[109,97,105,110]:=by simpa using hm
     obtain⟨X,hX⟩:=bM (wr.setCell (Ad (w.heap.size+1) 1) (aB d.num))
     have HZ:Hid (nG w (w.heap.size+1) w.heap.size A.length G X):=by
      show nG _ _ _ _ _ _
      rw[L,if_pos a6,hX]
      exact p.set1 _
     clear L p
     obtain⟨gv,S,O,V,M,v⟩:=HZ.ex
     obtain⟨W,n,rfl⟩:=aI V
     have gx:=N.below M.kp
     have s3:Ce X b 3 (aB d.num):=gx.cell 3
     have s5:Ce X b 5 (.slice pb y.length cb):=gx.cell 5
     have q0:Ce X (w.heap.size+1) 0 (.slice W G.begins.length n):=(aA O).cell 0
     have lX:=(aA O).lt
     have av:=M.kp.size
     have ab:=aG (yV d.body w X.drew Q y _ d.num (-1) (w.heap.size+1) w.heap.size A.length S ak al (o.body d (List.mem_of_getElem? hd) k2) (M.below ((Below.refl _ _).drew)))
     have ac:Hid (∀E J,er J=(jY d.num d.body (-1) (er S)).1->sg w (w.heap.size+1) w.heap.size A.length J E->aC (aK w.heap.size) X.drew E->Ce E (w.heap.size+1) 0 (.slice W G.begins.length n)/\Ce E b 3 (aB d.num)/\Ce E b 5 (.slice pb y.length cb)/\w.heap.size+1< E.heap.size/\Hid (E.ownsRow w.heap.size 3 1 (.slice W G.begins.length n) G.begins.length (G.begins.map (Value.int .i64)))/\Hid (∀R H,H.ownsRow w.heap.size 3 1 R (G.begins.length+1) (G.begins.map (Value.int .i64)++[aB (jY d.num d.body (-1) (er S)).2])->(E.alloc (.cells #[aB (jY d.num d.body (-1) (er S)).2] 3)).grownBy H (Value.slice W G.begins.length n).ownBlock->Ce H (w.heap.size+1) 0 (.slice W G.begins.length n)/\H.frozen? (Ad (w.heap.size+1) 0)=false/\w.heap.size+1< H.heap.size/\(Ce H b 3 (aB d.num)/\Ce H b 5 (.slice pb y.length cb))/\(Ce (H.setCell (Ad (w.heap.size+1) 0) R) b 3 (aB d.num)/\Ce (H.setCell (Ad (w.heap.size+1) 0) R) b 5 (.slice pb y.length cb))/\Hid (nG w (w.heap.size+1) w.heap.size A.length ((l.take (k+1)).foldl rV {T:=List.replicate A.length none}) (H.setCell (Ad (w.heap.size+1) 0) R)))):=fun E J m K B=>by
      have c:aC (aK w.heap.size) X E:=⟨B.os,B.tape,B.output,B.size,B.block⟩
      obtain⟨m1,m2⟩:=nG.mid O V M c
      have g:=N.below K.kp
      refine⟨(aA m1).cell 0,g.cell 3,g.cell 5,(aA m1).lt,m2,fun R H ho a7=>?_⟩
      obtain⟨⟨p1,p2,p3⟩,p4,p5,p6⟩:=nG.app m1 m2 K ho a7
      have f:=N.below p4
      have x:=N.below p5
      refine⟨p1,p2,p3,⟨f.cell 3,f.cell 5⟩,⟨x.cell 3,x.cell 5⟩,?_⟩
      show nG _ _ _ _ _ _
      rw[am.out,<-v,<-m]
      exact p6
     clear O V M v gx HZ
     have HX:=aG hX
     clear hX
     go_wp2_with fail
     rw[<-HX.out]
     go_region_law (first|(refine bD rfl (.tmp 56) (.tmp 68) 30 rfl w.heap.size 3 i1 (aB 0) 1 8 Tryz.underlying30 hj ah ag af rfl (by decide) _ _ _ (by simp[Act.eval,Act.put]) (aa.alloc _) (Ad E.heap.size 0) 1 1 [aB (jY d.num d.body (-1) (er S)).2] (by simp[Act.eval,Act.put]) rfl (cF _ _ _ _ (by simp)) (by intro u hu;simp at hu;subst hu;rfl) (by decide) (by have:=a2.out;unfold maxLen;omega) (by have:=a2.out;omega) (by simp;omega) ?_;intro R H C D Y;obtain⟨p4,k4,rfl⟩:=aI C;obtain⟨t9,f9,l9,t7,t8,a8⟩:=t _ _ C D;clear C D Y)|(go_simp;go_at_call 69;refine ab.mono ?_;rintro q E ⟨rfl,J,m,K,B⟩;obtain⟨t0,t3,t5,t6,aa,t⟩:=ac E J m K B;clear K B m;try go_wp2_with fail))
     all_goals
      go_wp2_with fail
      go_roundw
      case rel=>exact⟨k+1,by go_num,by omega,a8⟩
      case measure=>simp[intOf];omega
   ·have e1:((d.kind:Int)==1)=false:=by rw[beq_eq_false_iff_ne];omega
    have m:((d.kind:Int)==2)=false:=by rw[beq_eq_false_iff_ne];omega
    have HN:Hid (nG w (w.heap.size+1) w.heap.size A.length ((l.take (k+1)).foldl rV {T:=List.replicate A.length none}) wr):=by
     show nG _ _ _ _ _ _
     rw[a9.out,rV,if_neg k1,if_neg k2]
     exact p
    clear O V M v g1 g g3 f x g6 bw gw
    go_wp2_with fail
    go_roundw
    case rel=>exact⟨k+1,by go_num,by omega,HN⟩
    case measure=>simp[intOf];omega
instance exOpt{o:Option Nat}{P:Nat->Prop}[∀R,Decidable (P R)]:Decidable (∃R,o=some R/\P R):=
 match o with
 |none=>isFalse (fun⟨_,h,_⟩=>by cases h)
 |some r=>decidable_of_iff (P r) ⟨fun h=>⟨r,rfl,h⟩,fun⟨_,h,k⟩=>by cases h;exact k⟩
instance(x:Rp):Decidable (ft x):=decidable_of_iff (x.ends<=48/\x.stmts.length<=53/\∀s,s< x.stmts.length->(x.st s).fn< 5/\((x.st s).nx=-1\/(0<=(x.st s).nx/\(x.st s).nx<=48))/\((x.st s).ins=-1\/(0<=(x.st s).ins/\(x.st s).ins<=48))) ⟨fun⟨a,b,c⟩=>⟨a,b,c⟩,fun h=>⟨h.1,h.2,h.3⟩⟩
instance(x:Rp):Decidable (cP x):=decidable_of_iff (x.spots< ec/\∀i,i< 64->x.spots.testBit i=true->i< x.stmts.length) ⟨fun⟨a,b⟩=>⟨a,b⟩,fun h=>⟨h.1,h.2⟩⟩
instance(x:Rp):Decidable (vJ x):=decidable_of_iff ((∀f,f< x.begins.length->x.wholeO f=some (x.wholeD f))/\(∀s,s< x.stmts.length->(x.isCall s||x.isStart s)=true->(x.st s).p.nn< x.begins.length)/\x.main< x.begins.length/\x.begins.length< 64) ⟨fun⟨a,b,c,d⟩=>⟨a,b,c,d⟩,fun h=>⟨h.1,h.2,h.3,h.4⟩⟩
instance(x:Rp):Decidable (mE x):=decidable_of_iff ((∀s,s< 64->x.spots.testBit s=true->x.nextOf s< ec/\∃R,dD x.nextOf 70 (x.nextOf s) (x.nextOf s)=some R/\∀i,i< 64->R.testBit i=true->i< x.stmts.length)/\∀k,k< x.starts.length->x.starts.getD k 0< x.stmts.length) ⟨fun⟨a,b⟩=>⟨a,b⟩,fun h=>⟨h.1,h.2⟩⟩
instance(x:Rp):Decidable (FX x):=decidable_of_iff ((∀k,k< x.starts.length->x.withinOf k< ec)/\(∀k,k< x.starts.length->dD x.withinOf 70 (x.withinOf k) (x.withinOf k)=some (x.belowOf k))/\(∀k,k< x.starts.length->∀i,i< 64->(x.belowOf k).testBit i=true->i< x.starts.length)/\x.runs.length=x.starts.length+1/\x.starts.length< 60) ⟨fun⟨a,b,c,d,e⟩=>⟨a,b,c,d,e⟩,fun h=>⟨h.1,h.2,h.3,h.4,h.5⟩⟩
instance(s:Fs):Decidable (lz s):=decidable_of_iff (s.fn< 5/\s.p.ln< 6/\s.p.side< 2/\s.p.nn< 5/\s.r.length<=6/\∀a,a∈s.r->a.num< 6) ⟨fun⟨a,b,c,d,e,f⟩=>⟨a,b,c,d,e,f⟩,fun h=>⟨h.1,h.2,h.3,h.4,h.5,h.6⟩⟩
instance(x:Rp)(f:Nat->Option Nat)(s:Nat):Decidable (yn x f s):=decidable_of_iff (s< x.stmts.length/\lz (x.st s)/\s< 64/\x.starts.length< 64/\(((x.st s).p.kind=1/\(x.st s).p.op=0/\0< (x.st s).r.length)\/((x.st s).p.kind=2/\(x.st s).a0.num< 5/\0< (x.st s).r.length)\/((x.st s).p.kind=3/\(x.st s).p.ln< 5/\0< (x.st s).r.length)\/((x.st s).p.kind=4/\0< (x.st s).r.length)\/((x.st s).p.kind=5/\0< (x.st s).r.length)\/((x.st s).p.kind=6/\∃m,f s=some m/\m< 6)\/((x.st s).p.kind=7/\∃m,x.startAt s=some m/\m< 64)\/((x.st s).p.kind=12/\(x.st s).r.length=0)\/(x.st s).p.kind=11\/(x.st s).p.kind=8\/(x.st s).p.kind=9\/(x.st s).p.kind=10\/(x.st s).p.kind=13\/(x.st s).p.kind=14\/((x.st s).p.kind=1/\(x.st s).p.op≠0))) ⟨fun⟨a,b,c,d,e⟩=>⟨a,b,c,d,e⟩,fun h=>⟨h.1,h.2,h.3,h.4,h.5⟩⟩
instance(n:Nat)(l:List Nat):Decidable (Wd n l):=decidable_of_iff (l.length=n/\∀a∈l,a< ec) ⟨fun⟨a,b⟩=>⟨a,b⟩,fun h=>⟨h.1,h.2⟩⟩
theorem Hw{l:List Nat}(h:Wd 104 l)(k:∀j,j< 52->l.getD (2*j) 0< 64):kh l:=⟨h,fun j=>by
 by_cases A:j< 52
 ·exact k j A
 ·rw[List.getD_eq_getElem?_getD,List.getElem?_eq_none (by have:=h.len;omega)];decide⟩
instance(l:List Nat):Decidable (kh l):=decidable_of_iff (Wd 104 l/\∀j,j< 52->l.getD (2*j) 0< 64) ⟨fun⟨a,b⟩=>Hw a b,fun h=>⟨h.1,fun j _=>h.2 j⟩⟩
instance(x:Rp)(acs:List Ac):Decidable (wy x acs):=decidable_of_iff (acs.length≠0/\acs.length< 1000/\(el acs).length<=4000/\∀a∈acs,a.spot< x.stmts.length) ⟨fun⟨a,b,c,d⟩=>⟨a,b,c,d⟩,fun h=>⟨h.1,h.2,h.3,h.4⟩⟩
instance(l:List Pd)(n:Nat):Decidable (wv l n):=decidable_of_iff ((∀d∈l,d.kind=2->Gh n d.body=true)/\(∀o∈(Ky l n).T,o.isSome=true)/\l.length< 1000/\n< 1000000/\0< n) ⟨fun⟨a,b,c,d,e⟩=>⟨a,b,c,d,e⟩,fun h=>⟨h.1,h.2,h.3,h.4,h.5⟩⟩
namespace Fl
def cS(y:Fl):Nat:=(dD (y.r2 y.stmts.length).comeOf 70 (aW (y.sp y.main)) (aW (y.sp y.main))).getD 0
def cE(y:Fl):Nat:=((y.r3 y.cS).enteredO (y.r3 y.cS).againS).getD 0
def cT(y:Fl):Nat:=(y.r3 y.cS).twiceOf y.cE
def cR(y:Fl):List Nat:=(y.r4 y.cS y.cT).runsL
def cB(y:Fl):List Nat:=(y.r5 y.cS y.cT y.cR).belowL
def cX(y:Fl):Rp:=y.r6 y.cS y.cT y.cR y.cB
end Fl
instance(y:Fl)(S ent t:Nat)(rs bl:List Nat):Decidable (Dq y S ent t rs bl):=decidable_of_iff (0< y.stmts.length/\y.begins.length<=5/\(∀f,f< y.begins.length->y.begins.getD f 0=-1\/(0<=y.begins.getD f 0/\y.begins.getD f 0<=48))/\y.main< y.begins.length/\ft (y.r2 y.stmts.length)/\dD (y.r2 y.stmts.length).comeOf 70 (aW (y.sp y.main)) (aW (y.sp y.main))=some S/\(∀s,s< (y.r2 y.stmts.length).stmts.length->((y.r2 y.stmts.length).isCall s||(y.r2 y.stmts.length).isStart s)=true->((y.r2 y.stmts.length).st s).p.nn< y.begins.length)/\cP (y.r3 S)/\mE (y.r3 S)/\(y.r3 S).enteredO (y.r3 S).againS=some ent/\(y.r3 S).twiceOf ent=t/\vJ (y.r4 S t)/\(y.r4 S t).runsL=rs/\FX (y.r5 S t rs)/\(y.r5 S t rs).belowL=bl/\(y.r2 y.stmts.length).starts.length< 60)
 ⟨fun⟨a,b,c,d,e,f,g,h,i,j,k,l,m,n,o,p⟩=>⟨a,b,c,d,e,f,g,h,i,j,k,l,m,n,o,p⟩,fun h=>⟨h.1,h.2,h.3,h.4,h.5,h.6,h.7,h.8,h.9,h.10,h.11,h.12,h.13,h.14,h.15,h.16⟩⟩
namespace Rp
def cC(x:Rp):List Nat:=(dC (x.roundG (x.madeF x.stmts.length)) 100 (List.replicate 104 0)).getD []
def cSh(x:Rp)(cs:List Nat):Nat:=(dD (Gm cs) 70 (x.firstH cs).1 (x.firstH cs).1).getD 0
def cHeld(x:Rp):List Nat:=(dC (x.passG dT (x.heldB (dB (aW x.mutexes)) x.unA) x.spots) 100 (x.hf3 (dB (aW x.mutexes)))).getD []
def cAbout(x:Rp)(cs:List Nat):List Nat:=(dC (x.passG fV (x.aboutB cs) x.mainS) 100 (List.replicate 53 0)).getD []
end Rp
def FR(y:Fl)(x:Rp):Prop:=
 (Dq y y.cS y.cE y.cT y.cR y.cB)/\ft x/\cP x/\vJ x/\mE x/\(∀s,s< 64->x.spots.testBit s=true->yn x (x.madeF x.stmts.length) s)/\x.stmts.length<=53/\0< x.stmts.length/\(∀s,s< x.stmts.length->lz (x.st s))/\x.starts.length< 60
def FP(x:Rp)(cs:List Nat)(sh:Nat):Prop:=
 dC (x.roundG (x.madeF x.stmts.length)) 100 (List.replicate 104 0)=some cs/\kh cs/\dD (Gm cs) 70 (x.firstH cs).1 (x.firstH cs).1=some sh/\(x.firstH cs).1< ec/\sh< 64/\x.mutexes< 64
def FO(x:Rp):Prop:=
 (∀s,s< x.stmts.length->(x.st s).p.nn< 64)/\(∀s,s< 64->x.spots.testBit s=true->s< 53/\(x.isCall s=true->(x.st s).p.nn< x.begins.length))/\(∀f,f< x.begins.length->x.begins.getD f 0< 53)/\(∀s,s< x.stmts.length->x.isStart s=true->(x.st s).p.nn< x.begins.length)/\
 (∀s,s< 64->x.spots.testBit s=true->∀t,t< 64->(x.nextOf s).testBit t=true->t< 53)/\x.runs.length=x.starts.length+1/\x.below.length=x.starts.length
def FN(x:Rp):Prop:=
 (∀s,s< x.stmts.length->(x.st s).fn< 5)/\(∀s,s< x.stmts.length->(x.st s).p.kind=8->0< (x.st s).r.length/\((x.st s).r.getD 0 ⟨[],0,0,0⟩).num< 6)/\(∀k,k< x.starts.length->x.startAt (x.starts.getD k 0)≠none)/\(∀s,s< x.stmts.length->(x.st s).p.kind=2\/(x.st s).p.kind=4->0< (x.st s).r.length)
def FM(x:Rp)(cs held about:List Nat):Prop:=
 dC (x.passG dT (x.heldB (dB (aW x.mutexes)) x.unA) x.spots) 100 (x.hf3 (dB (aW x.mutexes)))=some held/\Wd 53 held/\dC (x.passG fV (x.aboutB cs) x.mainS) 100 (List.replicate 53 0)=some about/\Wd 53 about
instance(y:Fl)(x:Rp):Decidable (FR y x):=by unfold FR;infer_instance
instance(x:Rp)(cs:List Nat)(sh:Nat):Decidable (FP x cs sh):=by unfold FP;infer_instance
instance(x:Rp):Decidable (FO x):=by unfold FO;infer_instance
instance(x:Rp):Decidable (FN x):=by unfold FN;infer_instance
instance(x:Rp)(cs held about:List Nat):Decidable (FM x cs held about):=by unfold FM;infer_instance
def yy(l:aJ):Nat->bB->List bB
 |0,_=>[]
 |k+1,t=>t::(if ej t then[]else yy l k (yN l t))
def ic(l:aJ):List bB:=yy l (l.length+1) (fG l (fa l 0))
def vi(l:aJ):Option (List Pd×List Ph):=match eE ((cL (ic l)).1.map jE)with
 |.ok z=>some z
 |.error _=>none
def gi(l:aJ):Fl:=match vi l with
 |some (l3,hs)=>(Ky l3 hs.length).fl
 |none=>{}
def pE(l:aJ):List wC:=(gi l).cX.repsOf (gi l).cX.cHeld ((gi l).cX.cAbout (gi l).cX.cC) (el ((gi l).cX.accs (gi l).cX.cC ((gi l).cX.cSh (gi l).cX.cC)))
theorem EL:∀(l:List Nat) (v k:Nat),oP l v=some k->k< l.length:=by
 intro l
 induction l with
 |nil=>intro v k h;simp[oP]at h
 |cons a l ih=>
  intro v k h
  rw[oP]at h
  split at h
  ·cases h;simp
  ·cases e:oP l v with
   |none=>rw[e]at h;cases h
   |some m=>
    rw[e]at h
    cases h
    have:=ih v m e
    simp
    omega
theorem AV{l:aJ}{ts:List bB}(h:ga l ts):∀(k j:Nat) (t:bB),ts[j]?=some t->ts.length<=j+k->yy l k t=ts.drop j:=by
 intro k
 induction k with
 |zero=>
  intro j t e C
  have:=(List.getElem?_eq_some_iff.1 e).1
  omega
 |succ k ih=>
  intro j t e C
  have A:=(List.getElem?_eq_some_iff.1 e).1
  have D:ts.drop j=t::ts.drop (j+1):=by
   rw[List.drop_eq_getElem_cons A]
   congr 1
   rw[List.getElem?_eq_getElem A]at e
   exact Option.some.inj e
  rw[yy,D]
  congr 1
  cases B:ej t with
  |true=>
   rw[if_pos rfl,List.drop_eq_nil_of_le (by have:=h.last j t e B;omega)]
  |false=>
   rw[if_neg (by decide)]
   exact ih (j+1) _ (h.next j t e B) (by omega)
theorem zg(l:aJ):ga l (ic l):=by
 obtain⟨ts,h⟩:=DG l
 have:ic l=ts:=by
  unfold ic
  rw[AV h _ 0 _ h.first (by have:=h.len;omega)]
  rfl
 rw[this]
 exact h
structure jS(l:aJ)(want:List wC):Prop where
 len:l.length<=700
 read:(cL (ic l)).2.v.ok=true
 pds:BK ((cL (ic l)).1.map jE)=true
 ld:(vi l).isSome=true
 flw:match vi l with|some z=>wv z.1 z.2.length|none=>False
 d1:FR (gi l) (gi l).cX
 d2:FP (gi l).cX (gi l).cX.cC ((gi l).cX.cSh (gi l).cX.cC)
 d3:FO (gi l).cX
 d4:FN (gi l).cX
 d5:FM (gi l).cX (gi l).cX.cC (gi l).cX.cHeld ((gi l).cX.cAbout (gi l).cX.cC)
 al:wy (gi l).cX ((gi l).cX.accs (gi l).cX.cC ((gi l).cX.cSh (gi l).cX.cC))
 reps:pE l=want
theorem jS.nr{l:aJ}{A:List wC}(h:jS l A):yi (gi l) (gi l).cX (gi l).cX.cC (gi l).cX.cHeld ((gi l).cX.cAbout (gi l).cX.cC) ((gi l).cX.cSh (gi l).cX.cC):=by
 obtain⟨o,n,m,j,i,g,f,e,d,C⟩:=h.d1
 obtain⟨c,b,a,Z,Y,X⟩:=h.d2
 obtain⟨W,V,T,S,R,Q,P⟩:=h.d3
 obtain⟨O,N,p,M⟩:=h.d4
 obtain⟨L,K,J,H⟩:=h.d5
 exact{of:=⟨_,_,_,_,_,o,rfl⟩,ok:=n,sp:=m,wh:=j,ag:=i,dok:=g,n60:=f,n0:=e,so:=d,sm:=C,set:=⟨_,c⟩,okc:=b,shr:=a,fh:=Z,sh6:=Y,mu:=X,nn:=W,s53:=V,b53:=T,nst:=S,nx:=fun s t E G D B=>R s E G t D B,hset:=⟨_,L⟩,hw:=K,rn:=Q,bw:=P,fn:=O,jn:=N,sk:=fun s k F=>EL _ _ _ F,aset:=⟨_,J⟩,aw:=H,rr:=M}
theorem zv{l:aJ}{D:List Pd}{E:List Ph}(M:l.length<=700)(O:(cL (ic l)).2.v.ok=true)(N:BK ((cL (ic l)).1.map jE)=true)(B:vi l=some (D,E)):
  Calls Tryz.prog 7 #[.string ⟨l.toArray⟩] w fun r w'=>Bw w w'/\∃H C,r=.returned (.tuple #[aF H,aB 0,aB 0])/\aM w' H #[aF C]/\iW w w' D E C:=by
 have L:eE ((cL (ic l)).1.map jE)=.ok (D,E):=by
  unfold vi at B
  split at B
  ·rename_i e;rw[e];cases B;rfl
  ·cases B
 have J:=aG (Hi O L (Ek N) (w:=w) (s:=⟨l.toArray⟩) (ts:=ic l) (zg l) (by simpa[ByteArray.size]using M))
 go_in
 go_wp2_with fail
 refine J.mono ?_
 rintro r K ⟨A,C,rfl,P,G⟩
 ·have F:=aG (And.intro A G)
  clear A G J
  go_wp2_with fail
  refine bodyPost_ret (v:=.tuple #[aF K.heap.size,aB 0,aB 0]) (by simp[results,Tryz.results7,go_sem]) rfl ⟨F.1.alloc F.1.size _,_,C,rfl,aM.new _ _ _,?_⟩
  exact F.2.keep (S:=fun _=>False) ((aC.refl _ _).alloc _) (fun _ _ e=>e) (fun e=>e) (Nat.le_refl _)
end Go.Proofs.YtajfbbldaiaolaaGreatDoor
