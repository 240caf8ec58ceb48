import Derived.RangeFuncNested
import Derived.Test.YtajfbbldaiaolaaGreatDoorProg
import Derived.Test.YtajfbbldaiaolaaGreatDoorQ06
import Derived.Test.YtajfbbldaiaolaaGreatDoorQ25
set_option linter.unusedSimpArgs false
set_option linter.unusedVariables false
set_option maxRecDepth 100000
set_option maxHeartbeats 2000000
namespace Go.Proofs.YtajfbbldaiaolaaGreatDoor
open Go.RowKit Go.Shelf
variable {A B D W w:World}{L l:List Nat}{a b c d e g j k n:Nat}{v y:Value}{x:Rp}
section
attribute [local go_sem] Oper.semAt_some
theorem Hj(n:Nat)(A:Nat)(w:World):
  CallsIn Fence.wide n Tryz.prog 67 #[aF A] w fun e w'=>e=.returned (.func (.func 101) #[] #[Pt w.heap.size 0])/\w'=w.alloc (.cells #[aF A] 170):=by
 refine callsIn_of_wp Tryz.func67 rfl trivial ?_ rfl
 simp only[Tryz.ntmps67,List.size_toArray,List.length_cons,List.length_nil,Nat.reduceAdd,Nat.reduceSub,Array.replicate_succ,Array.replicate_zero,List.push_toArray,List.append_toArray,List.nil_append,List.cons_append]
 gi_wp2
 go_ret
 exact⟨rfl,rfl⟩
theorem LH(n:Nat)(A:Nat)(w:World):
  CallsIn Fence.wide n Tryz.prog 45 #[aF A] w fun e w'=>e=.returned (.func (.func 65) #[] #[Pt w.heap.size 0])/\w'=w.alloc (.cells #[aF A] 139):=by
 refine callsIn_of_wp Tryz.func45 rfl trivial ?_ rfl
 simp only[Tryz.ntmps45,List.size_toArray,List.length_cons,List.length_nil,Nat.reduceAdd,Nat.reduceSub,Array.replicate_succ,Array.replicate_zero,List.push_toArray,List.append_toArray,List.nil_append,List.cons_append]
 gi_wp2
 go_ret
 exact⟨rfl,rfl⟩
def el:List Ac->List (Ac×Ac)
 |[]=>[]
 |a::l=>(a::l).map (fun b=>(a,b))++el l
end
section
attribute [local go_sem] Oper.semAt_some
def La(t:TypeId)(cur:Array Value):Prop:=(cur.size=1/\(t=28\/t=4))\/(t=32/\cur.size%8=0)
structure KC(A B:World):Prop where
 size:A.heap.size<=B.heap.size
 tab:∀(cur:Array Value) (t:TypeId) (fr:Nat×Nat),A.heap[0]?=some (Obj.cells cur t fr)->B.heap[0]?=some (Obj.cells cur t fr)
 cs:∀(k:Nat) (cur:Array Value) (t:TypeId) (fr:Nat×Nat),A.heap[k]?=some (Obj.cells cur t fr)->¬La t cur->B.heap[k]?=some (Obj.cells cur t fr)
theorem KC.trans{C:World}(h:KC A B)(k:KC B C):KC A C:=⟨Nat.le_trans h.size k.size,fun c t f e=>k.tab c t f (h.tab c t f e),fun i c t f e n=>k.cs i c t f (h.cs i c t f e n) n⟩
theorem KC.of_below(h:Bw A B):KC A B:=⟨h.size,fun _ _ _ e=>(h.block _ (gl e)).trans e,fun i _ _ _ e _=>(h.block i (gl e)).trans e⟩
theorem KC.putObj(W:World)(l:Nat)(o o':Obj)(E:W.heap[l]?=some o)(D:o.isCells=false):KC W (W.putObj l o'):=by
 have ne:∀(k:Nat) (A:Array Value) (t:TypeId) (C:Nat×Nat),W.heap[k]?=some (Obj.cells A t C)->(W.putObj l o').heap[k]?=some (Obj.cells A t C):=fun k A t C e=>by
  have B:l≠k:=fun h=>by subst h;rw[E]at e;cases e;cases D
  rw[<-e]
  exact World.putObj_heap_other (fun h=>B h.symm)
 exact⟨by simp,fun c t f e=>ne _ c t f e,fun k c t f e _=>ne k c t f e⟩
theorem vF(h:w.cell? (Ad b j)=some v):∃A t C,w.heap[b]?=some (Obj.cells A t C):=by
 unfold World.cell? at h
 cases B:w.heap[b]? with
 |none=>simp[B]at h
 |some o=>cases o<;>simp_all
theorem KC.blk{C:Array Value}(k:KC A B)(h:aM A b C)(K:C.size%8≠0)(J:C.size≠1):aM B b C:=by
 have G:0< C.size:=by omega
 obtain⟨D,t,H,e⟩:=vF (w:=A) (b:=b) (j:=0) (v:=C[0]) (by rw[h.cell 0,Array.getElem?_eq_getElem G])
 have F:D=C:=by
  apply Array.ext_getElem?
  intro i
  have:=h.cell i
  simpa[World.cell?,e]using this
 have E:=k.cs b D t H e (fun h=>by rw[F]at h;rcases h with⟨h,_⟩|⟨_,h⟩<;>omega)
 refine⟨fun j=>?_,fun j=>?_,(gl E)⟩
 ·have:=h.cell j
  simp only[World.cell?,e,E]at this⊢
  exact this
 ·have:=h.fz j
  simp only[World.frozen?,e,E]at this⊢
  exact this
theorem KC.own{size:Nat}{E:List Value}(k:KC A B)(h:A.ownsRow a e size v n E)(L:e≠28)(K:e≠4)(J:e≠32):B.ownsRow a e size v n E:=by
 obtain⟨F,D⟩:=h
 refine⟨F,?_⟩
 rcases D with D|⟨g,cap,C,H,G,hg,r⟩
 ·exact .inl D
 ·exact .inr ⟨g,cap,C,H,G,k.cs g C e _ hg (fun h=>by rcases h with⟨_,h|h⟩|⟨h,_⟩<;>contradiction),r⟩
theorem KC.tz(k:KC A B)(h:Tz A):Tz B:=fun j E=>by
 have D:=h j E
 obtain⟨C,t,F,e⟩:=vF D
 have G:=k.tab C t F e
 rw[<-D]
 simp only[World.cell?,e,G]
theorem KC.fs{l:List Fs}(k:KC A B)(h:yl A y l):yl B y l:=by
 obtain⟨K,J,H,G⟩:=h.ex
 refine⟨K,J,k.own H (by decide) (by decide) (by decide),fun j b s D C=>?_⟩
 obtain⟨sr,sb,F,E⟩:=G j b s D C
 exact⟨sr,sb,k.blk F (by simp[bK]) (by simp[bK]),k.own E (by decide) (by decide) (by decide)⟩
theorem KC.rp(k:KC A B)(h:cA A a x):cA B a x:=by
 obtain⟨M,C,tv,D,E,L,K,J,H,G,F⟩:=h.ex
 exact⟨M,C,tv,D,E,k.blk L (by simp) (by simp),k.own K (by decide) (by decide) (by decide),k.fs J,k.own H (by decide) (by decide) (by decide),k.own G (by decide) (by decide) (by decide),k.own F (by decide) (by decide) (by decide)⟩
theorem KC.rt{held:List Nat}(k:KC A B)(h:iA A a b held l):iA B a b held l:=by
 obtain⟨D,C⟩:=h.ex
 have:=h.lh
 have:=h.la
 exact⟨⟨D,k.blk C (by simp[aS];omega) (by simp[aS];omega)⟩,h.lh,h.la⟩
theorem FD{l:List Ac}{a:Ac}(h:l[k]?=some a):(jP l)[k*5]?=some (aB a.spot)/\(jP l)[k*5+1]?=some (.bool a.wr)/\(jP l)[k*5+2]?=some (aB a.kind)/\(jP l)[k*5+3]?=some (aB a.num)/\(jP l)[k*5+4]?=some (aH a.things):=by
 induction l generalizing k with
 |nil=>simp at h
 |cons b l ih=>
  have e:jP (b::l)=FE b++jP l:=rfl
  have A:(FE b).length=5:=rfl
  cases k with
  |zero=>
   simp at h
   subst h
   exact⟨rfl,rfl,rfl,rfl,rfl⟩
  |succ k=>
   have:=ih (k:=k) (by simpa using h)
   have B:(k+1)*5=5+k*5:=by omega
   rw[e,B]
   refine⟨?_,?_,?_,?_,?_⟩
   ·rw[List.getElem?_append_right (by omega),A,show 5+k*5-5=k*5 by omega];exact this.1
   ·rw[List.getElem?_append_right (by omega),A,show 5+k*5+1-5=k*5+1 by omega];exact this.2.1
   ·rw[List.getElem?_append_right (by omega),A,show 5+k*5+2-5=k*5+2 by omega];exact this.2.2.1
   ·rw[List.getElem?_append_right (by omega),A,show 5+k*5+3-5=k*5+3 by omega];exact this.2.2.2.1
   ·rw[List.getElem?_append_right (by omega),A,show 5+k*5+4-5=k*5+4 by omega];exact this.2.2.2.2
theorem gg{B size:Nat}{E:List Value}(h:w.ownsRow B e size (.slice (some (Ad g 0)) n c) n E){i:Nat}(A:E[i]?=some v):w.cell? (Ad g i)=some v:=by
 obtain⟨L,G⟩:=h
 rcases G with⟨C,_⟩|⟨N,cap,D,C,M,hg,J,K,H,F⟩
 ·cases C
 ·cases C
  have:D[i]?=some v:=by
   rw[<-F,List.getElem?_take]at A
   split at A
   ·rw[<-A,Array.getElem?_toList]
   ·cases A
  simp only[World.cell?,hg]
  exact this
structure wm(W:World)(Bn bT g c:Nat)(acs:List Ac):Prop where
 bx:W.heap[Bn]?=some (.cells #[aF bT] 170 (0,0))
 rt:∃arr:Array Value,aM W bT arr/\arr.size=108/\arr[1]?=some (.slice (some ⟨g,0,none⟩) acs.length c)
 row:W.ownsRow 0 180 5 (.slice (some ⟨g,0,none⟩) acs.length c) acs.length (jP acs)
theorem wm.box{Bn:Nat}{A:List Ac}(h:wm W Bn a g c A):W.cell? (Ad Bn 0)=some (aF a):=(aA h.bx).cell 0
theorem wm.sl{Bn:Nat}{A:List Ac}(h:wm W Bn a g c A):W.cell? (Ad a 1)=some (.slice (some (Ad g 0)) A.length c):=by
 obtain⟨D,C,_,B⟩:=h.rt
 exact(C.cell 1).trans B
theorem wm.at'{Bn:Nat}{A:List Ac}(h:wm W Bn b g c A)(k:Nat)(a:Ac)(e:A[k]?=some a):W.cell? (Ad g (k*5))=some (aB a.spot)/\W.cell? (Ad g (k*5+1))=some (.bool a.wr)/\W.cell? (Ad g (k*5+2))=some (aB a.kind)/\W.cell? (Ad g (k*5+3))=some (aB a.num)/\W.cell? (Ad g (k*5+4))=some (aH a.things):=by
 obtain⟨a0,E,D,C,B⟩:=FD e
 exact⟨gg h.row a0,gg h.row E,gg h.row D,gg h.row C,gg h.row B⟩
theorem wm.kc{W':World}{Bn:Nat}{A:List Ac}(h:wm W Bn a g c A)(k:KC W W'):wm W' Bn a g c A:=by
 obtain⟨B,E,D,C⟩:=h.rt
 refine⟨k.cs _ _ _ _ h.bx (fun h=>?_),⟨B,k.blk E (by omega) (by omega),D,C⟩,k.own h.row (by decide) (by decide) (by decide)⟩
 rcases h with⟨_,h|h⟩|⟨h,_⟩<;>revert h<;>decide
theorem wm.low{W':World}{Bn:Nat}{A:List Ac}(h:wm W Bn a g c A)(k:Bw W W'):wm W' Bn a g c A:=h.kc (KC.of_below k)
def dU(acs:List Ac)(i j:Nat):List (Ac×Ac):=(List.range i).flatMap (fun k=>(acs.drop k).map (fun b=>(acs.getD k {},b)))++((acs.drop i).take j).map (fun b=>(acs.getD i {},b))
theorem jI{A:List Ac}{a b:Ac}(C:A[k]?=some a)(D:A[k+j]?=some b):dU A k (j+1)=dU A k j++[(a,b)]:=by
 unfold dU
 have e:A.getD k {}=a:=by rw[List.getD_eq_getElem?_getD,C];rfl
 have B:(A.drop k)[j]?=some b:=by rw[List.getElem?_drop];exact D
 rw[List.take_add_one,B,List.map_append,<-List.append_assoc]
 simp[e,C]
theorem oh{A:List Ac}:dU A k (A.length-k)=dU A (k+1) 0:=by
 unfold dU
 rw[List.range_succ,List.flatMap_append,List.take_of_length_le (by simp)]
 simp
theorem sS(a:Ac)(l:List Ac)(k:Nat):dU (a::l) (k+1) 0=(a::l).map (fun b=>(a,b))++dU l k 0:=by
 unfold dU
 rw[List.range_succ_eq_map,List.flatMap_cons,List.flatMap_map]
 simp
theorem oj(A:List Ac):dU A A.length 0=el A:=by
 induction A with
 |nil=>rfl
 |cons a l ih=>rw[List.length_cons,sS,ih];rfl
theorem mT(A:List Ac)(k j:Nat):dU A k j<+:dU A (k+1) 0:=by
 rw[<-oh]
 unfold dU
 rw[List.take_of_length_le (l:=A.drop k) (i:=A.length-k) (by simp)]
 exact(List.prefix_append_right_inj _).2 (List.IsPrefix.map _ (List.take_prefix _ _))
theorem sR(A:List Ac)(k:Nat):∀m,dU A k 0<+:dU A (k+m) 0:=by
 intro m
 induction m with
 |zero=>exact List.prefix_refl _
 |succ m ih=>exact ih.trans (mT A (k+m) 0)
theorem oi{A:List Ac}(B:k< A.length):dU A k j<+:el A:=by
 refine(mT A k j).trans ?_
 have:=sR A (k+1) (A.length-(k+1))
 rw[show k+1+(A.length-(k+1))=A.length by omega,oj]at this
 exact this
theorem xg{A:List Ac}{a b:Ac}(E:(el A).length<=4000)(B:A[k]?=some a)(D:A[k+j]?=some b):(dU A k j).length< 4000:=by
 have C:k< A.length:=(List.getElem?_eq_some_iff.1 B).1
 have h:=(oi (j:=j+1) C).length_le
 rw[jI B D,List.length_append]at h
 simp at h
 omega
theorem He(n:Nat)(hn:1<=n)(l Bn s g c:Nat)(A:List Ac)(hm:(el A).length<=4000)(a6:A.length≠0)(hc:A.length<=c)(aa:A.length< 1000)(W:World)(J Jx:List (Ac×Ac)->World->Prop)(hJ:AbidesFrom W.heap.size J)
  (hY:∀B x t,J B t->x.1∈A->x.2∈A->B.length< 4000->YieldAt Fence.wide (n-1) Tryz.prog l #[.agg #[aB x.1.spot,.bool x.1.wr,aB x.1.kind,aB x.1.num,aH x.1.things],.agg #[aB x.2.spot,.bool x.2.wr,aB x.2.kind,aB x.2.num,aH x.2.things]] t fun e W'=>
   (e=.returned (.bool true)/\J (B++[x]) W'/\KC t W')\/(e=.returned (.bool false)/\Jx (B++[x]) W'))
  (f:wm W Bn s g c A) (h0:J [] W):
  CallsIn Fence.wide n Tryz.prog 101 #[.func (.yield l) #[] #[],Pt Bn 0] W fun e W'=>(∃v,e=.returned v)/\
   ((∃z,z=el A/\J z W')\/(∃B,B<+:el A/\Jx B W')):=by
 obtain⟨u,HS⟩:=aN hY f
 have e0:=f.box
 have e1:=f.sl
 have HJ:=aG hJ
 clear hY f hJ
 refine callsIn_of_wp Tryz.func101 rfl trivial ?_ rfl
 simp only[Tryz.ntmps101,List.size_toArray,List.length_cons,List.length_nil,Nat.reduceAdd,Nat.reduceSub,Array.replicate_succ,Array.replicate_zero,List.push_toArray,List.append_toArray,List.nil_append,List.cons_append]
 gi_wp2
 gi_loopw [12] (fun i wr=>∃k:Nat,i=aB k/\k<=A.length/\Hid (J (dU A k 0) wr)/\Hid (wm wr Bn s g c A)/\W.heap.size<=wr.heap.size) (fun i _=>A.length-(intOf i).toNat)
 case atStart=>exact⟨0,rfl,Nat.zero_le _,h0,HS,Nat.le_refl _⟩
 case round=>
  obtain⟨k,rfl,hk,X,E,hz⟩:=hrel
  obtain⟨d,p⟩:=bM wr
  subst p
  by_cases S:k=A.length
  ·have r:¬((k:Int)< A.length):=by omega
   gi_wp2
   go_end0
   have hX:=X.out
   rw[S,oj]at hX
   exact⟨⟨_,rfl⟩,.inl hX⟩
  ·have r:(k:Int)< A.length:=by omega
   obtain⟨a,P⟩:∃a,A[k]?=some a:=⟨_,List.getElem?_eq_getElem (by omega)⟩
   have a8:(0:Int)<=k:=by omega
   obtain⟨a0,a1,a2,a3,a4⟩:=E.at' k a P
   have f0:=E.box
   have f1:=E.sl
   have k6:Bw d (d.alloc (.cells #[aB a.spot,.bool a.wr,aB a.kind,aB a.num,aH a.things] 180)):=ba d _
   have L:=aG (E.low k6)
   have t0:=L.box
   have t1:=L.sl
   have a7:(k:Int)<=c:=by omega
   clear S k6
   gi_wp2
   gi_loopw [24] (fun i Z=>∃j:Nat,i=aB j/\j<=A.length-k/\Hid (J (dU A k j) Z)/\Hid (wm Z Bn s g c A)/\W.heap.size<=Z.heap.size/\Hid (Z.heap[d.heap.size]?=some (.cells #[aB a.spot,.bool a.wr,aB a.kind,aB a.num,aH a.things] 180 (0,0)))) (fun i _=>A.length-(intOf i).toNat)
   case atStart=>exact⟨0,rfl,Nat.zero_le _,HJ _ _ _ none X (World.grownBy_alloc _ _ none) (by simp),L,by simp;omega,heap_alloc_new _ _⟩
   case round=>
    obtain⟨j,rfl,hj,N,K,Q,Y⟩:=hrel
    by_cases T:j=A.length-k
    ·have R:¬((j:Int)< (A.length-k:Nat)):=by omega
     gi_wp2
     rw[T,oh]at N
     exact⟨⟨k+1,by simp,by omega,N,K,Q⟩,by simp[intOf];omega⟩
    ·have R:(j:Int)< (A.length-k:Nat):=by omega
     obtain⟨b,V⟩:∃b,A[k+j]?=some b:=⟨_,List.getElem?_eq_getElem (by omega)⟩
     obtain⟨b0,b1,b2,b3,b4⟩:=K.at' (k+j) b V
     have a9:(0:Int)<=j:=by omega
     rw[Nat.add_mul]at b0 b1 b2 b3 b4
     have C:=aA Y
     have G:Bw wr (wr.alloc (.cells #[aB b.spot,.bool b.wr,aB b.kind,aB b.num,aH b.things] 180)):=ba wr _
     have c0:=bc G (C.cell 0)
     have c1:=bc G (C.cell 1)
     have c2:=bc G (C.cell 2)
     have c3:=bc G (C.cell 3)
     have c4:=bc G (C.cell 4)
     have q:=C.lt
     obtain⟨fn,a5,m,body,hy,hR⟩:=u (dU A k j) (a,b) (wr.alloc (.cells #[aB b.spot,.bool b.wr,aB b.kind,aB b.num,aH b.things] 180)) (HJ _ _ _ none N (World.grownBy_alloc _ _ none) (by simp)) (List.mem_of_getElem? P) (List.mem_of_getElem? V) (xg hm P V)
     dsimp only at hy
     obtain⟨HR,M⟩:=aN hR G
     clear hR G
     clear T C
     gi_wp2
     refine HR.mono ?_
     rintro e W3 (⟨rfl,H,D⟩|⟨rfl,F⟩)
     ·rw[<-jI P V]at H
      obtain⟨O,w,y⟩:=bY H ((K.low M).kc D) (D.cs _ _ _ _ ((M.block _ q).trans Y) (fun h=>by rcases h with⟨_,h|h⟩|⟨h,_⟩<;>revert h<;>decide))
      have o:W.heap.size<=W3.heap.size:=Nat.le_trans Q (Nat.le_trans M.size D.size)
      clear H D
      gi_wp2
      exact⟨⟨j+1,by simp,by omega,O,w,o,y⟩,by simp[intOf];omega⟩
     ·have O:=aG F
      clear F
      gi_wp2
      refine bodyPost_ret (results_none rfl _ _ _) rfl ?_
      refine⟨⟨_,rfl⟩,.inr ⟨dU A k j++[(a,b)],?_,O⟩⟩
      rw[<-jI P V]
      exact oi (List.getElem?_eq_some_iff.1 P).1
abbrev KY(acs:List Ac):={p:Ac×Ac//p.1∈acs/\p.2∈acs}
theorem xh(n:Nat)(T:1<=n)(Bn Q g c:Nat)(C:List Ac)(V:(el C).length<=4000)(K:C.length≠0)(X:C.length<=c)(L:C.length< 1000)(w:World)(a:wm w Bn Q g c C):
  SeqStopsK Fence.wide n Tryz.prog 101 #[Pt Bn 0] (fun x:KY C=>#[.agg #[aB x.1.1.spot,.bool x.1.1.wr,aB x.1.1.kind,aB x.1.1.num,aH x.1.1.things],.agg #[aB x.1.2.spot,.bool x.1.2.wr,aB x.1.2.kind,aB x.1.2.num,aH x.1.2.things]]) KC (fun O=>O.map (·.1)=el C) (fun D=>D.map (·.1)<+:el C) 4000 w:=fun l J m W Z d _ Y i=>by
 refine(He n T l Bn Q g c C V K X L W (fun D W=>∃q:List (KY C),q.map (·.1)=D/\J q W) (fun D W=>∃q:List (KY C),q.map (·.1)=D/\m q W) ?_ ?_ (a.low Z) ⟨[],rfl,i⟩).mono ?_
 ·rintro s A B row ⟨q,e,h⟩ hg S
  exact⟨q,e,d q A B row h hg S⟩
 ·rintro D x k ⟨q,rfl,h⟩ H G P
  rw[List.length_map]at P
  obtain⟨j,F,E,body,R,b⟩:=Y q ⟨x,H,G⟩ k h P
  refine⟨j,F,E,body,R,b.mono ?_⟩
  rintro e W' (⟨N,M,f⟩|⟨N,M⟩)
  ·exact .inl ⟨N,⟨_,by simp,M⟩,f⟩
  ·exact .inr ⟨N,⟨_,by simp,M⟩⟩
 ·rintro e W' ⟨H,⟨O,rfl,q,e,G⟩|⟨D,hp,q,rfl,G⟩⟩
  ·exact⟨H,.inl ⟨q,e,G⟩⟩
  ·exact⟨H,.inr ⟨q,hp,G⟩⟩
theorem Hc{Bn B:Nat}{held:List Nat}{A:List Ac}(G:w.heap[Bn]?=some (.cells #[aF a] 170 (0,0)))(C:iA w a b held l)(E:w.cell? (Ad a 1)=some (.slice (some (Ad g 0)) A.length c))(F:w.ownsRow B 180 5 (.slice (some (Ad g 0)) A.length c) A.length (jP A)):wm w Bn a g c A:=by
 obtain⟨H,D⟩:=C.ex
 have:=C.lh
 have:=C.la
 refine⟨G,⟨_,D,by simp[aS];omega,(D.cell 1).symm.trans E⟩,dP F 0 (Nat.zero_le _)⟩
end
section
def KL{α:Type}(F:Fence)(n:Nat)(P:Program)(g:Nat)(lb:Array Value)(encs:α->Array Value)(Kp:World->World->Prop)(G:α->World->Prop)(S:List α->Prop)(N:Nat)(w:World):Prop:=
 ∀(l:Nat) (J:List α->World->Prop) (W:World),Below w.heap.size w W->OwnFrom W.heap.size J->
  (∀pre x W1,J pre W1->G x W1->pre.length< N->YieldAt F (n-1) P l (encs x) W1 fun e W'=>e=.returned (.bool true)/\J (pre++[x]) W'/\Kp W1 W'/\KeepsFrom W.heap.size W1 W')->
  J [] W->CallsIn F n P g (#[.func (.yield l) #[] #[]]++lb) W fun e W'=>(∃v,e=.returned v)/\∃xs,S xs/\J xs W'
theorem GP{F:Fence}{P:Program}{α:Type}{g:Operand}{ps:Array Tmp}{assign body:Code}{Q:Exit->Act->World->Prop}{a:Act}
  (hro:F.round=none) (h1:1<=n) {gf:Nat} {lb:Array Value} (hg:a.eval g=.func (.func gf) #[] lb) (hFg:F.fn gf) (eg:∀args w,(callFunc gf args).run P w=.ok (.enter gf args) w)
  {encs:α->Array Value} {Kp:World->World->Prop} {G:α->World->Prop} {S:List α->Prop} {N:Nat} {w0:World} (hseq:KL F (n-1) P gf lb encs Kp G S N w0)
  (hKt:∀{A B C:World},Kp A B->Kp B C->Kp A C) (hKb:∀(W:World) (l:Nat) (o o':Obj),W.heap[l]?=some o->o.isCells=false->Kp W (W.putObj l o')) (hb0:Bw w0 w) (hps:∀x,(encs x).size=ps.size)
  (I:List α->World->Prop) (hI:OwnFrom w.heap.size I) (h0:I [] w) (Ax:α->Act->World->Prop) (hAx:∀x a',OwnFrom w.heap.size (fun(_:Unit) W=>Ax x a' W))
  (hassign:∀(l:Nat) (pre:List α) (x:α) (W:World) (K:Act->World->Prop),I pre W->G x W->(∀a' W',KeepsFrom w.heap.size W W'->Kp W W'->I pre W'->Ax x a' W'->K a' W')->
   assign.wpIn (F.inRound l) (n-1-1) P (Exit.then K (fun _ _ _=>False)) {tmps:=(ps.zip (encs x)).foldl (fun t (p,v)=>t.setIfInBounds p v) a.tmps,defers:=[]} W)
  (hbody:∀(l:Nat) (pre:List α) (x:α) (a':Act) (W:World),w.heap.size<=l->I pre W->Ax x a' W->pre.length< N->body.wpIn (F.inRound l) (n-1-1) P (ownPostG w.heap.size Kp I (fun _ _ _=>False) (pre++[x]) W) a' W)
  (hdone:∀(D:Nat) (xs:List α) (W:World),w.heap.size<=D->S xs->I xs W->W.heap[D]?=some (.deferred (some []))->Q .normal {a with defers:={target:=.collected D,args:=#[]}::a.defers} W):
  (Code.rangeFunc g ps assign body).wpIn F n P Q a w:=by
 refine wpIn_rangeFunc fun fn hfn=>?_
 rw[hro]
 obtain⟨R,hR⟩:=bM (fun st=>{state:=st,pending:=none,fn,tmps:=a.tmps,params:=ps,assign,body,defers:=w.heap.size}:LoopState->Loop)
 obtain⟨w1,e1⟩:=bM (w.alloc (.deferred (some [])))
 obtain⟨w2,e2⟩:=bM (w1.alloc (.loop (R .ready)))
 have s1:w1.heap.size=w.heap.size+1:=by rw[e1];simp
 have s2:w2.heap.size=w.heap.size+2:=by rw[e2];simp[s1]
 have d1:w1.heap[w.heap.size]?=some (.deferred (some [])):=by rw[e1];exact World.alloc_heap_new w _
 have d2:w2.heap[w.heap.size]?=some (.deferred (some [])):=by rw[e2];exact(Below.heap_alloc _ _ _ (by omega)).trans d1
 have r2:w2.heap[w.heap.size+1]?=some (.loop (R .ready)):=by rw[e2,<-s1];exact World.alloc_heap_new w1 _
 have b2:Bw w0 w2:=by
  rw[e2,e1]
  exact hb0.trans (((ba w _).alloc (by simp) _).mono hb0.size)
 have i2:I [] w2:=by rw[e2,e1];exact hI.alloc _ (hI.alloc _ h0)
 refine⟨w.heap.size+1,[{target:=.collected w.heap.size,args:=#[]}],w2,{target:=.fn (.func gf) lb,args:=#[.func (.yield (w.heap.size+1)) #[] #[]]},w2,gf,#[.func (.yield (w.heap.size+1)) #[] #[]]++lb,w2,?_,?_,?_,?_,fun _=>h1,?_⟩
 ·rw[e2,e1,hR];exact run_enterLoop_outer _ _ _ _ _
 ·simp only[resolve,hg]
  simp[go_sem]
 ·intro f' hf';simp[Target.leads]at hf';subst hf';exact hFg
 ·simp[invoke,go_sem,eg]
 ·have stay:∀{A B:World} {row:Option Nat} {k:Nat} {o:Obj},k< w2.heap.size->A.grownBy B row->(∀r,row=some r->w2.heap.size<=r/\∃o:Obj,A.heap[r]?=some o/\o.isCells=false)->A.heap[k]?=some o->B.heap[k]?=some o:=
   fun hk hgr hr ho=>(hgr.block _ (gl ho) (fun e=>by have:=(hr _ e.symm).1;omega)).trans ho
  have up:∀{A:World} {row:Option Nat},(∀r,row=some r->w2.heap.size<=r/\∃o:Obj,A.heap[r]?=some o/\o.isCells=false)->(∀r,row=some r->w.heap.size<=r/\∃o:Obj,A.heap[r]?=some o/\o.isCells=false):=
   fun hr r e=>⟨by have:=(hr r e).1;omega,(hr r e).2⟩
  refine(hseq (w.heap.size+1) (fun pre W=>I pre W/\W.heap[w.heap.size+1]?=some (.loop (R .ready))/\W.heap[w.heap.size]?=some (.deferred (some []))) w2 b2
   (fun s A B row hs hgr hr=>⟨hI s A B row hs.1 hgr (up hr),stay (by omega) hgr hr hs.2.1,stay (by omega) hgr hr hs.2.2⟩) ?_ ⟨i2,r2,d2⟩).mono ?_
  ·rintro pre x W ⟨hi,hl,hd⟩ hG hlen
   have hy:=run_yield (P:=P) (args:=encs x) hl (by rw[hR];exact hps x)
   rw[hR]at hy
   refine⟨fn,_,assign,body,hy,roundIn_of_wpIn hfn (hassign _ pre x W _ hi hG ?_)⟩
   clear hy
   intro a' V kV pV iV axV
   have lV:=kV.same _ _ (by omega) hl rfl
   have dV:=kV.same _ _ (Nat.le_refl _) hd rfl
   have zV:w.heap.size+1< V.heap.size:=(gl lV)
   refine⟨_,run_beginRound lV (by rw[hR]),?_⟩
   obtain⟨V2,eV⟩:=bM (V.putObj (w.heap.size+1) (.loop {R .ready with state:=.busy}))
   rw[<-eV]
   have lV2:V2.heap[w.heap.size+1]?=some (.loop {R .ready with state:=.busy}):=by rw[eV];exact World.putObj_heap_same zV
   have dV2:V2.heap[w.heap.size]?=some (.deferred (some [])):=by rw[eV];exact(World.putObj_heap_other (by omega)).trans dV
   have pV2:Kp V V2:=by rw[eV];exact hKb _ _ _ _ lV rfl
   have kf:∀(X:World) (o o':Obj),X.heap[w.heap.size+1]?=some o->KeepsFrom w2.heap.size X (X.putObj (w.heap.size+1) o'):=fun X o o' _=>⟨by simp,fun k o2 hk h2 _=>(World.putObj_heap_other (by omega)).trans h2⟩
   have kfm:∀{X Y:World},KeepsFrom w.heap.size X Y->KeepsFrom w2.heap.size X Y:=fun h=>⟨h.size,fun k o hk=>h.same k o (by omega)⟩
   have kV2:KeepsFrom w2.heap.size V V2:=by rw[eV];exact kf V _ _ lV
   refine wpIn_mono (hbody _ pre x a' V2 (by omega) (by rw[eV];exact hI.putObj _ iV (by omega) lV rfl) (by rw[eV];exact(hAx x a').putObj (s:=()) _ axV (by omega) lV rfl) hlen) ?_
   intro e a3 X hp
   cases e with
   |normal=>
    obtain⟨kX,pX,iX⟩:=hp
    have lX:=kX.same _ _ (by omega) lV2 rfl
    have dX:=kX.same _ _ (Nat.le_refl _) dV2 rfl
    have zX:w.heap.size+1< X.heap.size:=(gl lX)
    have hr:=run_endRound (P:=P) none lX
    have eR:({({R .ready with state:=.busy}:Loop)with state:=(if(none:Option Code).isNone then LoopState.ready else .done),pending:=none}:Loop)=R .ready:=by rw[hR];rfl
    refine⟨_,_,hr,rfl,⟨hI.putObj _ iX (by omega) lX rfl,?_,(World.putObj_heap_other (by omega)).trans dX⟩,hKt pV (hKt pV2 (hKt pX (hKb _ _ _ _ lX rfl))),((kfm kV).trans kV2).trans ((kfm kX).trans (kf X _ _ lX))⟩
    rw[World.putObj_heap_same zX]
    exact congrArg (fun z=>some (Obj.loop z)) eR
   |ret=>exact hp.2.elim
   |exit id=>exact hp.2.elim
   |goto t=>exact hp.2.elim
   |panic ch=>exact hp.elim
   |outgrown=>exact hp.elim
  ·rintro e X ⟨⟨v,rfl⟩,xs,hS,hi,hl,hd⟩
   have hr:=run_endLoop (P:=P) hl (by rw[hR];simp)
   have ep:(R .ready).pending=none:=by rw[hR]
   rw[ep]at hr
   exact⟨none,_,hr,hdone _ xs _ (Nat.le_refl _) hS (hI.putObj _ hi (by omega) hl rfl) ((World.putObj_heap_other (by omega)).trans hd)⟩
end
section
attribute [local go_sem] Oper.semAt_some
theorem nH.keep{w':World}{y:Fl}(h:nH w a y)(k:Bw w w'):nH w' a y:=by
 obtain⟨E,A,D,C,B⟩:=h.ex
 exact⟨E,A,D.below k,aP C k,B.below k⟩
theorem eO(k:Bw A B):A.grownBy B none:=⟨k.os,k.tape,k.output,k.size,fun i C _=>k.block i C⟩
theorem jo{β:Type}{J:β->World->Prop}(C:OwnFrom b J){s:β}(h:J s A)(k:Bw A B):J s B:=C s A B none h (eO k) (fun r e=>by cases e)
theorem KC.of_grown{row:Option Nat}(hg:A.grownBy B row)(F:∀r,row=some r->∃o:Obj,A.heap[r]?=some o/\o.isCells=false):KC A B:=by
 have ne:∀(k:Nat) (C:Array Value) (t:TypeId) (D:Nat×Nat),A.heap[k]?=some (Obj.cells C t D)->B.heap[k]?=some (Obj.cells C t D):=fun k C t D e=>by
  refine(hg.block k (gl e) (fun h=>?_)).trans e
  obtain⟨o,E,G⟩:=F k h.symm
  rw[e]at E;cases E;cases G
 exact⟨hg.size,fun c t f e=>ne _ c t f e,fun k c t f e _=>ne k c t f e⟩
abbrev ia:=wC×Value×Value
def sK(x:ia):Array Value:=#[.agg (kj x.1 x.2.1 x.2.2)]
def qH(x:ia)(W:World):Prop:=W.ownsRow 0 3 1 x.2.1 x.1.la.length (dG x.1.la)/\W.ownsRow 0 3 1 x.2.2 x.1.lb.length (dG x.1.lb)
namespace Rp
def repsOf(x:Rp)(held about:List Nat)(ps:List (Ac×Ac)):List wC:=ps.filterMap (fun p=>x.repOf held about p.1 p.2)
end Rp
structure wy(x:Rp)(acs:List Ac):Prop where
 ne:acs.length≠0
 few:acs.length< 1000
 pairs:(el acs).length<=4000
 spot:∀a∈acs,a.spot< x.stmts.length
structure Gw(base l yb rb bT bR:Nat)(x:Rp)(held about:List Nat)(J:List ia->World->Prop)(pre:List (Ac×Ac))(V:World):Prop where
 xs:∃xs:List ia,xs.map (·.1)=x.repsOf held about pre/\J xs V
 rp:cA V bR x
 rt:iA V bT bR held about
 tz:Tz V
 yb:V.heap[yb]?=some (.cells #[.func (.yield l) #[] #[]] 75 (0,0))
 rb:V.heap[rb]?=some (.cells #[aF bT] 170 (0,0))
 sz:base<=V.heap.size
theorem pP{t:TypeId}{A:Array Value}(D:t≠28)(C:t≠4)(B:t≠32):¬La t A:=fun h=>by
 rcases h with⟨_,h|h⟩|⟨h,_⟩<;>contradiction
theorem Gw.kc{l:Nat}{held:List Nat}{J:List ia->World->Prop}{B A:List (Ac×Ac)}{V:World}(h:Gw a l b c d e x held L J B V)(k:KC V w)(D:∃C:List ia,C.map (·.1)=x.repsOf held L A/\J C w):Gw a l b c d e x held L J A w:=
 ⟨D,k.rp h.rp,k.rt h.rt,k.tz h.tz,k.cs _ _ _ _ h.yb (pP (by decide) (by decide) (by decide)),k.cs _ _ _ _ h.rb (pP (by decide) (by decide) (by decide)),Nat.le_trans h.sz k.size⟩
theorem Gw.low{l:Nat}{held:List Nat}{J:List ia->World->Prop}{A:List (Ac×Ac)}{V:World}(h:Gw a l b c d e x held L J A V)(C:OwnFrom a J)(k:Bw V w):Gw a l b c d e x held L J A w:=by
 obtain⟨B,E,D⟩:=h.xs
 exact h.kc (KC.of_below k) ⟨B,E,jo C D k⟩
theorem uG{m l:Nat}{P:Program}{f:FuncId}{B:Array Value}{A body:Code}{R:Ending->World->Prop}(h:RoundIn Fence.wide m P l f B A body w R):RoundIn (Fence.wide.inRound a) n P l f B A body w R:=⟨h.1,fun c C _=>h.2 c C (room_wide _)⟩
theorem Mb(n:Nat)(hn:3<=n)(l Bf bF sh:Nat){y:Fl}{cs held about:List Nat}(W:World)(hfl:nH W bF y)(ok:yi y x cs held about sh)(al:wy x (x.accs cs sh))(hT:Tz W)(hg:0< W.heap.size)(hBf:W.cell? (Ad Bf 0)=some (aF bF))(J:List ia->World->Prop)(hJ:OwnFrom W.heap.size J)
  (hY:∀pre z W1,J pre W1->qH z W1->pre.length< 4000->YieldAt Fence.wide (n-1) Tryz.prog l (sK z) W1 fun e W'=>e=.returned (.bool true)/\J (pre++[z]) W'/\KC W1 W'/\KeepsFrom W.heap.size W1 W') (h0:J [] W):
  CallsIn Fence.wide n Tryz.prog 65 #[.func (.yield l) #[] #[],Pt Bf 0] W fun e W'=>(∃v,e=.returned v)/\∃xs:List ia,xs.map (·.1)=x.repsOf held about (el (x.accs cs sh))/\J xs W':=by
 have lBf:=aD hBf
 have k1:Bw W (W.alloc (.cells #[.func (.yield l) #[] #[]] 75)):=ba W _
 generalize hacs:x.accs cs sh=acs at al
 have HN:=aG ((callsIn_wide (n:=n-1)).2 (Kc (hfl.keep k1) ok (hT.below k1) (Nat.lt_of_lt_of_le hg k1.size)))
 rw[hacs]at HN
 obtain⟨HOK,HT,HJ,HY,H0⟩:=ma ok hT hJ hY h0
 clear hfl ok hT k1 hJ hY h0
 refine callsIn_of_wp_marks Tryz.func65 rfl trivial ?_ rfl
 simp only[Tryz.ntmps65,List.size_toArray,List.length_cons,List.length_nil,Nat.reduceAdd,Nat.reduceSub,Array.replicate_succ,Array.replicate_zero,List.push_toArray,List.append_toArray,List.nil_append,List.cons_append]
 gi_wp2
 refine⟨trivial,fun _=>by omega,?_⟩
 refine HN.mono ?_
 rintro q w1 ⟨bT,bR,rfl,ht,hx,⟨v,hv1,hv2⟩,hb1⟩
 obtain⟨HTR,HXR,HV1,HV2,HB1⟩:=ma ht hx hv1 hv2 hb1
 clear ht hx hv1 hv2 hb1 HN
 obtain⟨g,c,rfl⟩:=aO HV2 al.ne
 gi_wp2
 refine⟨trivial,fun _=>by omega,?_⟩
 refine(Hj _ _ _).mono ?_
 rintro q wp ⟨rfl,hwp⟩
 have hk2:Bw w1 (w1.alloc (.cells #[aF bT] 170)):=ba _ _
 have hk3:Bw w1 wp:=by rw[hwp];exact hk2.alloc (by simp) _
 have hrb:wp.heap[w1.heap.size]?=some (.cells #[aF bT] 170 (0,0)):=by rw[hwp];exact(Below.heap_alloc _ _ _ (by simp)).trans (heap_alloc_new _ _)
 have hnb:wp.heap[w1.heap.size+1]?=some (.cells #[aF bT] 170 (0,0)):=by
  rw[hwp]
  have:=heap_alloc_new (w1.alloc (.cells #[aF bT] 170)) (.cells #[aF bT] 170)
  rw[World.size_alloc]at this
  exact this
 have hyb:wp.heap[W.heap.size]?=some (.cells #[.func (.yield l) #[] #[]] 75 (0,0)):=by
  have h1:=heap_alloc_new W (.cells #[.func (.yield l) #[] #[]] 75)
  have h2:=(HB1.block W.heap.size (by simp)).trans h1
  exact(hk3.block _ (gl h2)).trans h2
 have HP:=aG (Hc (Bn:=w1.heap.size+1) hnb (HTR.keep hk3) (bc hk3 HV1) (aP HV2 hk3))
 have HI0:Hid (Gw W.heap.size l W.heap.size w1.heap.size bT bR x held about J [] wp):=by
  have kW:Bw W wp:=(ba W _).trans ((HB1.mono (by simp)).trans (hk3.mono (Nat.le_trans (by simp) HB1.size)))
  exact⟨⟨[],rfl,jo HJ H0 kW⟩,HXR.keep hk3,HTR.keep hk3,HT.below kW,hyb,hrb,kW.size⟩
 have hcc:acs.length<=c:=by
  rcases HV2.2 with⟨e,_⟩|⟨g',cap,cur,e,_,_,h1,_⟩
  ·cases e
  ·cases e;exact h1
 have hz1:W.heap.size<=wp.heap.size:=HI0.sz
 have HOK':=HOK
 clear HTR HXR HV1 HV2 HB1 hk2 hk3 hrb hnb hyb H0
 gi_wp2
 rw[show(w1.alloc (Obj.cells #[Value.pointer (some {block:=bT,off:=0})] 170)).alloc (Obj.cells #[aF bT] 170)=wp from hwp.symm]
 clear hwp
 refine wpIn_rangeFunc_ownH (α:=KY acs) rfl (by omega) (gf:=101) (lb:=#[Pt (w1.heap.size+1) 0]) rfl trivial (enters_of Tryz.func101 (by kernel_rfl) rfl)
  (xh (n-1) (by omega) (w1.heap.size+1) bT g c acs al.pairs al.ne hcc al.few wp HP) KC.trans (fun W' l' o o' _ h1 h2 _=>KC.putObj W' l' o o' h1 h2) (Below.refl _ _) (fun _=>rfl)
  (fun pre V=>Gw W.heap.size l W.heap.size w1.heap.size bT bR x held about J (pre.map (·.1)) V)
  (fun _ _ _=>False)
  (fun pre A B row hs hgr hr=>by
   obtain⟨xs,e1,e2⟩:=hs.xs
   exact hs.kc (KC.of_grown hgr (fun r e=>(hr r e).2)) ⟨xs,e1,HJ xs A B row e2 hgr (fun r e=>⟨Nat.le_trans hz1 (hr r e).1,(hr r e).2⟩)⟩)
  (fun _ _ _ _ _ hs _ _=>hs)
  HI0
  (fun z a' V=>∃p q,a'={tmps:=#[.func (.yield l) #[] #[],Pt Bf 0,Pt W.heap.size 0,Pt w1.heap.size 0,Pt p 0,Pt q 0,undef,undef,aF bF,aF bT,Pt bT 0,.func (.func 101) #[] #[Pt (w1.heap.size+1) 0],.agg #[aB z.1.1.spot,.bool z.1.1.wr,aB z.1.1.kind,aB z.1.1.num,aH z.1.1.things],.agg #[aB z.1.2.spot,.bool z.1.2.wr,aB z.1.2.kind,aB z.1.2.num,aH z.1.2.things],undef,undef,undef,undef,undef,undef,undef,undef,undef,undef,undef,undef,undef,undef],defers:=[]}/\V.heap[p]?=some (.cells #[aB z.1.1.spot,.bool z.1.1.wr,aB z.1.1.kind,aB z.1.1.num,aH z.1.1.things] 180 (0,0))/\V.heap[q]?=some (.cells #[aB z.1.2.spot,.bool z.1.2.wr,aB z.1.2.kind,aB z.1.2.num,aH z.1.2.things] 180 (0,0)))
  (fun z a' _ A B row hs hgr hr=>by
   obtain⟨p,q,e,h1,h2⟩:=hs
   have k:=KC.of_grown hgr (fun r e=>(hr r e).2)
   exact⟨p,q,e,k.cs _ _ _ _ h1 (pP (by decide) (by decide) (by decide)),k.cs _ _ _ _ h2 (pP (by decide) (by decide) (by decide))⟩) ?assign ?body ?done ?stop
 case assign=>
  rintro lr pre z V K hI hK
  have kA:Bw V (V.alloc (.cells #[aB z.1.1.spot,.bool z.1.1.wr,aB z.1.1.kind,aB z.1.1.num,aH z.1.1.things] 180)):=ba V _
  have kB:Bw V ((V.alloc (.cells #[aB z.1.1.spot,.bool z.1.1.wr,aB z.1.1.kind,aB z.1.1.num,aH z.1.1.things] 180)).alloc (.cells #[aB z.1.2.spot,.bool z.1.2.wr,aB z.1.2.kind,aB z.1.2.num,aH z.1.2.things] 180)):=kA.alloc (by simp) _
  have h1:((V.alloc (.cells #[aB z.1.1.spot,.bool z.1.1.wr,aB z.1.1.kind,aB z.1.1.num,aH z.1.1.things] 180)).alloc (.cells #[aB z.1.2.spot,.bool z.1.2.wr,aB z.1.2.kind,aB z.1.2.num,aH z.1.2.things] 180)).heap[V.heap.size]?=some (.cells #[aB z.1.1.spot,.bool z.1.1.wr,aB z.1.1.kind,aB z.1.1.num,aH z.1.1.things] 180 (0,0)):=(Below.heap_alloc _ _ _ (by simp)).trans (heap_alloc_new _ _)
  have h2:=heap_alloc_new (V.alloc (.cells #[aB z.1.1.spot,.bool z.1.1.wr,aB z.1.1.kind,aB z.1.1.num,aH z.1.1.things] 180)) (.cells #[aB z.1.2.spot,.bool z.1.2.wr,aB z.1.2.kind,aB z.1.2.num,aH z.1.2.things] 180)
  rw[World.size_alloc]at h2
  have HK:=aG (hK {tmps:=#[.func (.yield l) #[] #[],Pt Bf 0,Pt W.heap.size 0,Pt w1.heap.size 0,Pt V.heap.size 0,Pt (V.heap.size+1) 0,undef,undef,aF bF,aF bT,Pt bT 0,.func (.func 101) #[] #[Pt (w1.heap.size+1) 0],.agg #[aB z.1.1.spot,.bool z.1.1.wr,aB z.1.1.kind,aB z.1.1.num,aH z.1.1.things],.agg #[aB z.1.2.spot,.bool z.1.2.wr,aB z.1.2.kind,aB z.1.2.num,aH z.1.2.things],undef,undef,undef,undef,undef,undef,undef,undef,undef,undef,undef,undef,undef,undef],defers:=[]} _ (KeepsFrom.of_grownBy (eO kB) (fun j e=>by cases e)) (KC.of_below kB) (hI.low HJ kB) ⟨_,_,rfl,h1,h2⟩)
  clear hI hK kA kB h1 h2
  gi_wp2
  exact HK
 case done=>
  intro D xs V hD hS hI hd
  gi_wp2
  refine⟨by simp,.inl ⟨_,_,rfl,run_takeDeferred hd,?_⟩⟩
  refine⟨_,results_none rfl _ _ _,⟨_,rfl⟩,?_⟩
  obtain⟨zs,e1,e2⟩:=hI.xs
  refine⟨zs,e1.trans (by rw[hS]),HJ.putObj _ e2 (by omega) hd rfl⟩
 case stop=>
  intro D c' pre V _ _ hF
  exact hF.elim
 case body=>
  rintro lr pre z a' V hlr ⟨rr,hrr⟩ hI ⟨p,q,rfl,hp,hq⟩ hlen
  have hzV:=hI.sz
  have HR:=aG (Es (a:=z.1.1) (b:=z.1.2) hI.rp hI.rt HOK.ok HOK.ag (Nat.lt_of_lt_of_le hg hzV) hI.tz (al.spot _ z.2.1) (al.spot _ z.2.2) HOK.sm HOK.rn HOK.n60 HOK.hw)
  have b1:=aA hp
  have b2:=aA hq
  have a0:Ce V p 0 (aB z.1.1.spot):=b1.cell 0
  have a1:Ce V p 1 (.bool z.1.1.wr):=b1.cell 1
  have a2:Ce V p 2 (aB z.1.1.kind):=b1.cell 2
  have a3:Ce V p 3 (aB z.1.1.num):=b1.cell 3
  have a4:Ce V p 4 (aH z.1.1.things):=b1.cell 4
  have c0:Ce V q 0 (aB z.1.2.spot):=b2.cell 0
  have c1:Ce V q 1 (.bool z.1.2.wr):=b2.cell 1
  have c2:Ce V q 2 (aB z.1.2.kind):=b2.cell 2
  have c3:Ce V q 3 (aB z.1.2.num):=b2.cell 3
  have c4:Ce V q 4 (aH z.1.2.things):=b2.cell 4
  have d0:Ce V w1.heap.size 0 (aF bT):=(aA hI.rb).cell 0
  have HI:=aG hI
  clear hI hp hq b1 b2
  gi_wp2
  refine⟨trivial,fun _=>by omega,?_⟩
  refine(CallsIn.inRound lr (callsIn_wide.2 HR)).mono ?_
  rintro e V1 ⟨hpost,hb1⟩
  have d1:Ce V1 W.heap.size 0 (.func (.yield l) #[] #[]):=(aA ((hb1.block _ (gl HI.yb)).trans HI.yb)).cell 0
  have hzz:=hb1.size
  have HB1:=aG hb1
  clear hb1 HR a0 a1 a2 a3 a4 c0 c1 c2 c3 c4 d0
  generalize ho:x.repOf held about z.1.1 z.1.2=o at hpost
  cases o with
  |none=>
   have he:e=_:=hpost
   subst he
   clear hpost d1
   gi_wp2
   refine⟨(fun f h=>nomatch h),?_⟩
   gi_wp2
   have k9:=HB1.alloc HB1.size (.cells #[aB 0,aB 0,aB 0,aB 0,aB 0,aB 0,.slice none 0 0,.slice none 0 0] 32)
   refine⟨KeepsFrom.of_grownBy (eO k9) (fun j e=>by cases e),KC.of_below k9,?_⟩
   obtain⟨xs,e1,e2⟩:=HI.xs
   refine HI.kc (KC.of_below k9) ⟨xs,?_,jo HJ e2 k9⟩
   rw[e1]
   simp[Rp.repsOf,ho]
  |some r=>
   obtain⟨la,lb,rfl,hla,hlb⟩:=hpost
   obtain⟨pa,ca,rfl⟩:=aI hla
   obtain⟨pb,cb,rfl⟩:=aI hlb
   obtain⟨HLA,HLB⟩:=aN hla hlb
   obtain⟨xs,e1,e2⟩:=HI.xs
   have k9:=HB1.alloc HB1.size (.cells (kj r (.slice pa r.la.length ca) (.slice pb r.lb.length cb)) 32)
   have k8:Bw V1 (V1.alloc (.cells (kj r (.slice pa r.la.length ca) (.slice pb r.lb.length cb)) 32)):=ba _ _
   have hxl:xs.length< 4000:=by
    have h1:(xs.map (·.1)).length<=(pre.map (·.1)).length:=by rw[e1];exact List.length_filterMap_le _ _
    simp at h1
    omega
   obtain⟨fn,tmps,assign,body,hy,hR⟩:=HY xs (r,.slice pa r.la.length ca,.slice pb r.lb.length cb) (V1.alloc (.cells (kj r (.slice pa r.la.length ca) (.slice pb r.lb.length cb)) 32)) (jo HJ e2 k9) ⟨dP (aP hla k8) 0 (Nat.zero_le _),dP (aP hlb k8) 0 (Nat.zero_le _)⟩ hxl
   have HR:=aG hR
   have d2:Ce (V1.alloc (.cells (kj r (.slice pa r.la.length ca) (.slice pb r.lb.length cb)) 32)) W.heap.size 0 (.func (.yield l) #[] #[]):=bc k8 d1
   have HK9:=aG k9
   clear hR hla hlb k9 k8 d1
   simp only[kj,sK]at hy d2 HR HK9⊢
   gi_wp2
   refine⟨fun _=>by omega,(uG HR).mono ?_⟩
   rintro e V2 ⟨rfl,hj2,hkc2,hkf2⟩
   obtain⟨HJ2,HKC2⟩:=aN hj2 ((KC.of_below HK9).trans hkc2)
   have HKF2:Hid (KeepsFrom wp.heap.size V V2):=(KeepsFrom.of_grownBy (eO HK9) (fun j e=>by cases e)).trans ⟨hkf2.size,fun k o hk=>hkf2.same k o (Nat.le_trans hz1 hk)⟩
   clear hj2 hkc2 hkf2 hy d2 HR
   gi_wp2
   refine⟨HKF2,HKC2,HI.kc HKC2 ⟨_,?_,HJ2⟩⟩
   rw[List.map_append,e1]
   simp[Rp.repsOf,ho]
theorem IM(n:Nat)(K:3<=n)(G F B:Nat){y:Fl}{held A:List Nat}(w:World)(D:nH w F y)(ok:yi y x L held A B)(Q:wy x (x.accs L B))(N:Tz w)(hg:0< w.heap.size)(E:w.cell? (Ad G 0)=some (aF F)):
  KL Fence.wide n Tryz.prog 65 #[Pt G 0] sK KC qH (fun H=>H.map (·.1)=x.repsOf held A (el (x.accs L B))) 4000 w:=fun l J W C O M P=>
 Mb n K l G F B W (D.keep C) ok Q (N.below C) (Nat.lt_of_lt_of_le hg C.size) (bc C E) J O M P
end
section
attribute [local go_sem] Oper.semAt_some
theorem KC.of_chg{row:Option Nat}(hg:A.grownBy B row)(D:∀r,row=some r->r≠0/\∃C t F,A.heap[r]?=some (Obj.cells C t F)/\La t C):KC A B:=by
 refine⟨hg.size,fun c t f e=>?_,fun k c t f e n=>?_⟩
 ·exact(hg.block _ (gl e) (fun h=>(D _ h.symm).1 rfl)).trans e
 ·refine(hg.block k (gl e) (fun h=>?_)).trans e
  obtain⟨_,J,G,H,e',E⟩:=D k h.symm
  rw[e]at e'
  cases e'
  exact n E
theorem ij{B:Nat}{X Y:World}{row:Option Nat}(hg:X.grownBy Y row)(D:∀r,row=some r->∃C t F,X.heap[r]?=some (Obj.cells C t F)):KeepsFrom B X Y:=by
 refine⟨hg.size,fun k o _ A E=>(hg.block k (gl A) (fun h=>?_)).trans A⟩
 obtain⟨c,t,f,e⟩:=D k h.symm
 rw[A]at e
 cases e
 cases E
theorem EA{B:List Value}(h:w.ownsRow a 32 8 v n B){r:Nat}(e:v.ownBlock=some r):a<=r/\∃A t E,w.heap[r]?=some (Obj.cells A t E)/\La t A:=by
 rcases h.2 with⟨rfl,_⟩|⟨g,cap,A,rfl,D,hg,_,_,C,_⟩
 ·cases e
 ·cases e
  exact⟨D,A,_,_,hg,.inr ⟨rfl,by rw[C];omega⟩⟩
def pF(l:List ia):List Value:=l.flatMap (fun x=>(kj x.1 x.2.1 x.2.2).toList)
theorem wZ(l:List ia)(x:ia):pF (l++[x])=pF l++(kj x.1 x.2.1 x.2.2).toList:=by simp[pF]
theorem qH.kc{x:ia}(h:qH x A)(k:KC A B):qH x B:=⟨k.own h.1 (by decide) (by decide) (by decide),k.own h.2 (by decide) (by decide) (by decide)⟩
structure uj(w:World)(bn bl bL bm:Nat)(pre:List ia)(W:World):Prop where
 no:W.heap[bn]?=some (.cells #[.bool false] 4 (0,0))
 most:W.heap[bm]?=some (.cells #[.int .i64 5000] 3 (0,0))
 late:W.heap[bl]?=some (.cells #[.int .i64 0] 3 (0,0))
 ls:∃lv,W.heap[bL]?=some (.cells #[lv] 28 (0,0))/\W.ownsRow w.heap.size 32 8 lv pre.length (pF pre)
 g:∀x∈pre,qH x W
 kp:Below w.heap.size w W
 hn:w.heap.size<=bn
 hL:w.heap.size<=bL
theorem uj.own{bn B:Nat}(J:w.heap.size<=B):OwnFrom B (uj w bn a b c):=fun K A C row h hg E=>by
 have k:=KC.of_grown hg (fun r e=>(E r e).2)
 have ne:∀(k:Nat) (D:Array Value) (t:TypeId) (G:Nat×Nat),A.heap[k]?=some (Obj.cells D t G)->C.heap[k]?=some (Obj.cells D t G):=fun k D t G e=>by
  refine(hg.block k (gl e) (fun h=>?_)).trans e
  obtain⟨o,H,O⟩:=(E k h.symm).2
  rw[e]at H;cases H;cases O
 obtain⟨L,Q,P⟩:=h.ls
 refine⟨ne _ _ _ _ h.no,ne _ _ _ _ h.most,ne _ _ _ _ h.late,⟨L,ne _ _ _ _ Q,?_⟩,fun x M=>(h.g x M).kc k,h.kp.grown hg h.kp.size (fun r e=>by have:=(E r e).1;omega),h.hn,h.hL⟩
 obtain⟨N,F⟩:=P
 refine⟨N,?_⟩
 rcases F with F|⟨g,cap,D,R,J,hg,r⟩
 ·exact .inl F
 ·exact .inr ⟨g,cap,D,R,J,ne _ _ _ _ hg,r⟩
theorem qT:(Tryz.prog.info? 32).map (fun i=>(i.zero,i.size,i.bytes))=some (some (.agg #[aB 0,aB 0,aB 0,aB 0,aB 0,aB 0,.slice none 0 0,.slice none 0 0]),8,96):=by kernel_rfl
theorem fE{x y:Array Value}{s t:TypeId}{f g:Nat×Nat}(h:w.heap[a]?=some (Obj.cells x s f))(k:w.heap[b]?=some (Obj.cells y t g))(A:s≠t):a≠b:=fun e=>by
 subst e
 rw[h]at k
 cases k
 exact A rfl
structure Mc(w W w4:World)(bn bl bL bm:Nat)(lv:Value):Prop where
 no:w4.heap[bn]?=some (.cells #[.bool false] 4 (0,0))
 most:w4.heap[bm]?=some (.cells #[.int .i64 5000] 3 (0,0))
 late:w4.heap[bl]?=some (.cells #[.int .i64 0] 3 (0,0))
 ls:w4.heap[bL]?=some (.cells #[lv] 28 (0,0))
 kc:KC W w4
 kf:∀B,KeepsFrom B W w4
 kp:Below w.heap.size w w4
theorem uj.step{v u:World}{bn:Nat}{D:List ia}(h:uj w bn a b d D W)(M:W.heap[b]?=some (.cells #[y] 28 (0,0)))(L:W.ownsRow w.heap.size 32 8 y D.length (pF D))(k:Bw W v)(hg:v.grownBy u y.ownBlock)(Q:0< w.heap.size):Mc w W u bn a b d y:=by
 have F:=aP L k
 have C:∀r,y.ownBlock=some r->w.heap.size<=r/\∃A G,v.heap[r]?=some (Obj.cells A 32 G):=fun r e=>by
  rcases F.2 with⟨rfl,_⟩|⟨g,cap,A,rfl,N,hg,_⟩
  ·cases e
  ·cases e;exact⟨N,_,_,hg⟩
 have st:∀(E:Nat) (A:Array Value) (t:TypeId) (G:Nat×Nat),W.heap[E]?=some (Obj.cells A t G)->t≠32->u.heap[E]?=some (Obj.cells A t G):=fun E A t G e H=>by
  have J:=(k.block E (gl e)).trans e
  refine(hg.block E (gl J) (fun h=>?_)).trans J
  obtain⟨_,T,S,e'⟩:=C E h.symm
  rw[J]at e'
  cases e'
  exact H rfl
 have P:=eO k
 refine⟨st _ _ _ _ h.no (by decide),st _ _ _ _ h.most (by decide),st _ _ _ _ h.late (by decide),st _ _ _ _ M (by decide),(KC.of_below k).trans (KC.of_chg hg (fun r e=>?_)),fun B=>(KeepsFrom.of_grownBy P (fun j e=>by cases e)).trans (ij hg (fun r e=>?_)),?_⟩
 ·obtain⟨R,O⟩:=EA F e
  exact⟨by omega,O⟩
 ·obtain⟨_,c,f,e⟩:=C r e
  exact⟨c,_,f,e⟩
 ·have K:=h.kp.trans (k.mono h.kp.size)
  exact K.grown hg K.size (fun r e=>(C r e).1)
theorem kM{size:Nat}{G:List Value}{D:Array Value}{t:TypeId}{L:Nat×Nat}(h:A.ownsRow a e size v n G)(hg:A.grownBy B (some b))(H:A.heap[b]?=some (Obj.cells D t L))(E:t≠e):B.ownsRow a e size v n G:=by
 obtain⟨J,F⟩:=h
 refine⟨J,?_⟩
 rcases F with F|⟨g,cap,D,M,K,C,r⟩
 ·exact .inl F
 ·refine .inr ⟨g,cap,D,M,K,(hg.block g (gl C) (fun e=>?_)).trans C,r⟩
  cases e
  rw[C]at H
  cases H
  exact E rfl
theorem vq{t:TypeId}(u:Value)(h:A.heap[b]?=some (.cells #[v] t (0,0))):(A.setCell ⟨b,0,none⟩ u).heap[b]?=some (.cells #[u] t (0,0)):=by
 rw[heap_setCell h]
 rfl
theorem gU{o:Obj}(u:Value)(h:A.heap[k]?=some o)(B:k≠b):(A.setCell (Ad b 0) u).heap[k]?=some o:=((grownBy_setCell' A b u).block k (gl h) (fun e=>B (by cases e;rfl))).trans h
theorem Mc.fin{u:World}{bn:Nat}{A:List ia}{z:ia}(s:Mc w W u bn a b c y)(h:uj w bn a b c A W)(S:qH z W)(T:u.ownsRow w.heap.size 32 8 v (A.length+1) (pF A++(kj z.1 z.2.1 z.2.2).toList))(X:0< w.heap.size)(B:Nat):
  uj w bn a b c (A++[z]) ((u.setCell ⟨b,0,none⟩ v).setCell ⟨bn,0,none⟩ (.bool false))/\KC W ((u.setCell ⟨b,0,none⟩ v).setCell ⟨bn,0,none⟩ (.bool false))/\KeepsFrom B W ((u.setCell ⟨b,0,none⟩ v).setCell ⟨bn,0,none⟩ (.bool false)):=by
 have J:b≠bn:=fE s.ls s.no (by decide)
 have P:c≠b:=fE s.most s.ls (by decide)
 have O:c≠bn:=fE s.most s.no (by decide)
 have N:a≠b:=fE s.late s.ls (by decide)
 have M:a≠bn:=fE s.late s.no (by decide)
 have L:=h.hL
 have K:=h.hn
 have E:=grownBy_setCell' u b v
 have D:=grownBy_setCell' (u.setCell (Ad b 0) v) bn (.bool false)
 have V:=vq v s.ls
 have F:=gU v s.no (Ne.symm J)
 have R:KC u (u.setCell (Ad b 0) v):=KC.of_chg E (fun r e=>by cases e;exact⟨by omega,_,_,_,s.ls,.inl ⟨rfl,.inl rfl⟩⟩)
 have Q:KC (u.setCell (Ad b 0) v) ((u.setCell (Ad b 0) v).setCell (Ad bn 0) (.bool false)):=KC.of_chg D (fun r e=>by cases e;exact⟨by omega,_,_,_,F,.inl ⟨rfl,.inr rfl⟩⟩)
 have G:=s.kc.trans (R.trans Q)
 refine⟨⟨vq _ F,gU _ (gU _ s.most P) O,gU _ (gU _ s.late N) M,⟨v,gU _ V J,?_⟩,fun x C=>?_,?_,K,L⟩,G,(s.kf B).trans ((ij E (fun r e=>by cases e;exact⟨_,_,_,s.ls⟩)).trans (ij D (fun r e=>by cases e;exact⟨_,_,_,F⟩)))⟩
 ·rw[wZ,List.length_append]
  exact kM (kM T E s.ls (by decide)) D F (by decide)
 ·rcases List.mem_append.1 C with C|C
  ·exact(h.g x C).kc G
  ·simp at C
   subst C
   exact S.kc G
 ·have H:=s.kp.grown E s.kp.size (fun r e=>by cases e;exact L)
  exact H.grown D H.size (fun r e=>by cases e;exact K)
theorem GZ{bn:Nat}{E:List ia}{z:ia}(h:uj w bn a b d E W)(J:qH z W)(Y:E.length< 4000)(X:0< w.heap.size)(B:Nat):
  Calls Tryz.prog 28 #[.agg (kj z.1 z.2.1 z.2.2),Pt bn 0,Pt a 0,Pt b 0,Pt d 0] W fun e W'=>e=.returned (.bool true)/\uj w bn a b d (E++[z]) W'/\KC W W'/\KeepsFrom B W W':=by
 obtain⟨⟨o,n,l,m,L,K,N,M⟩,la,lb⟩:=z
 obtain⟨r,ca,f⟩:=aI J.1
 obtain⟨q,cb,Z⟩:=aI J.2
 dsimp only at f Z
 subst f Z
 obtain⟨x,y,Q,P,O⟩:=info_parts qT
 obtain⟨lv,F,R⟩:=h.ls
 obtain⟨p,c,rfl⟩:=aI R
 simp only[kj]
 have j:Ce W bn 0 (.bool false):=(aA h.no).cell 0
 have i:Ce W b 0 (.slice p E.length c):=(aA F).cell 0
 have g:Ce W d 0 (aB 5000):=(aA h.most).cell 0
 have v:=aD j
 have t:=aD i
 have s:=aD g
 have f1:W.frozen? (Ad bn 0)=false:=(aA h.no).fz 0
 have f3:W.frozen? (Ad b 0)=false:=(aA F).fz 0
 go_in
 obtain⟨H,HZ,H1,k⟩:=fK h J F R
 have n1:b≠bn:=fE F h.no (by decide)
 have n2:b≠d:=fE F h.most (by decide)
 have n3:bn≠d:=fE h.no h.most (by decide)
 have n4:b≠a:=fE F h.late (by decide)
 have n5:bn≠a:=fE h.no h.late (by decide)
 have a0:=h.kp.size
 clear h J F R
 go_wp2_with (at_builtin;refine bE rfl _ _ 28 rfl w.heap.size 32 x (.agg #[aB 0,aB 0,aB 0,aB 0,aB 0,aB 0,.slice none 0 0,.slice none 0 0]) 8 96 Tryz.underlying28 y Q P O rfl (by decide) _ _ _ rfl ((k.alloc _).alloc _) (Ad (W.heap.size+1) 0) 1 1 [aB o,aB n,aB l,aB m,aB L,aB K,.slice r N.length ca,.slice q M.length cb] rfl rfl (cF _ _ _ _ (by simp)) (by intro u V;simp at V;rcases V with rfl|rfl|rfl|rfl|rfl|rfl|rfl|rfl<;>rfl) (by decide) (by unfold maxLen;omega) (by omega) (by simp;omega) ?_;intro v4 G C D _;obtain⟨p4,k4,rfl⟩:=aI C;have A:=H.step H1 k ((ba W _).alloc (by simp) _) D X;have e1:Ce G bn 0 (.bool false):=(aA A.no).cell 0;have e3:Ce G b 0 (.slice p E.length c):=(aA A.ls).cell 0;have e4:Ce G d 0 (aB 5000):=(aA A.most).cell 0;have g1:G.frozen? (Ad bn 0)=false:=(aA A.no).fz 0;have g3:G.frozen? (Ad b 0)=false:=(aA A.ls).fz 0;have S:=aG A;have T:=aG C;have m1:=aD e1;have m3:=aD e3;have m4:=aD e4;clear j i g v t s f1 f3 A C D)
 have hd:decide ((5000:Int)<=(E.length:Int)+1)=false:=by simp;omega
 simp only[hd,Bool.not_false]
 go_ret
 exact⟨rfl,S.fin H HZ T X B⟩
end
section
attribute [local go_sem] Oper.semAt_some
theorem pY{C:World}{row:Option Nat}(hg:A.grownBy C row)(F:∀r,row=some r->∃o:Obj,A.heap[r]?=some o/\o.isCells=false){B:Array Value}{t:TypeId}{E:Nat×Nat}(e:A.heap[k]?=some (Obj.cells B t E)):C.heap[k]?=some (Obj.cells B t E):=by
 refine(hg.block k (gl e) (fun h=>?_)).trans e
 obtain⟨o,D,G⟩:=F k h.symm
 rw[e]at D;cases D;cases G
theorem uj.below{W':World}{bn:Nat}{A:List ia}(h:uj w bn a b c A W)(k:Bw W W'):uj w bn a b c A W':=jo (uj.own (Nat.le_refl _)) h k
theorem xU(f:Go.Fn)(a b:Array Value)(w:World):(binOp BinOp.eql 75 (.func f a b) .nilFunc).run Tryz.prog w=.ok (.bool false) w:=by kernel_rfl
theorem Hn{bP:Nat}(h:w.cell? (Ad b 0)=some (aF bP)):Calls Tryz.prog 44 #[aF b] w (Ru w (.bool false)):=by
 go_in
 go_wp2_with fail
 go_ret
 exact⟨rfl,rfl⟩
theorem Br(u F bP sh:Nat){y:Fl}{held:List Nat}{bn:Nat}(hP:uj w bn a b c [] W)(hF:∀V,Bw W V->Ca 46 #[aF bP] V fun r V'=>∃Q,r=.returned (aF Q)/\nH V' Q y/\Bw V V')(ok:yi y x l held L sh)(al:wy x (x.accs l sh))(hT:Tz W)(hg:0< w.heap.size)(P:W.cell? (Ad u 0)=some (aF F))(J:W.cell? (Ad F 0)=some (aF bP)):
  Ca 43 #[.func (.func 28) #[] #[Pt bn 0,Pt a 0,Pt b 0,Pt c 0],Pt u 0] W fun e W'=>(∃v,e=.returned v)/\∃xs:List ia,xs.map (·.1)=x.repsOf held L (el (x.accs l sh))/\uj w bn a b c xs W':=by
 obtain⟨D,hD⟩:=bM (W.alloc (.cells #[.func (.func 28) #[] #[Pt bn 0,Pt a 0,Pt b 0,Pt c 0]] 75))
 have N:Bw W D:=by rw[hD];exact ba W _
 have yD:D.heap[W.heap.size]?=some (.cells #[.func (.func 28) #[] #[Pt bn 0,Pt a 0,Pt b 0,Pt c 0]] 75 (0,0)):=by rw[hD];exact heap_alloc_new _ _
 have y0:Ce D W.heap.size 0 (.func (.func 28) #[] #[Pt bn 0,Pt a 0,Pt b 0,Pt c 0]):=(aA yD).cell 0
 have d1:Ce D u 0 (aF F):=bc N P
 have d2:Ce D F 0 (aF bP):=bc N J
 obtain⟨HE,HF,HP,HT⟩:=fK (Hn d2) (hF D N) (hP.below N) (hT.below N)
 have ad:0< D.heap.size:=Nat.lt_of_lt_of_le hg hP.kp.size |> fun h=>Nat.lt_of_lt_of_le h N.size
 have ac:w.heap.size<=D.heap.size:=Nat.le_trans hP.kp.size N.size
 obtain⟨R,ai,am,HD⟩:=fK yD ok al hD
 have aa:=aD P
 have lG:=aD J
 clear hP hF hT ok al N yD hD
 refine(callsIn_wide (n:=5)).1 ?_
 refine callsIn_of_wp_marks Tryz.func43 rfl trivial ?_ rfl
 simp only[Tryz.ntmps43,List.size_toArray,List.length_cons,List.length_nil,Nat.reduceAdd,Nat.reduceSub,Array.replicate_succ,Array.replicate_zero,List.push_toArray,List.append_toArray,List.nil_append,List.cons_append]
 gi_wp2
 rw[<-HD.out]
 refine⟨trivial,?_⟩
 refine(callsIn_wide.2 HE).mono ?_
 rintro e w' ⟨rfl,rfl⟩
 clear HE P J aa lG HD
 have nf:=xU (.func 28) #[] #[Pt bn 0,Pt a 0,Pt b 0,Pt c 0] w'
 gi_wp2
 refine⟨trivial,?_⟩
 refine(callsIn_wide.2 HF).mono ?_
 rintro e V ⟨Q,rfl,m,i⟩
 obtain⟨t,S⟩:=aN m i
 clear m i HF
 gi_wp2
 refine⟨trivial,?_⟩
 refine(LH _ _ _).mono ?_
 rintro e X ⟨rfl,hX⟩
 have kX:Bw V X:=by rw[hX];exact ba V _
 have bX:X.cell? (Ad V.heap.size 0)=some (aF Q):=by rw[hX];exact(aA (heap_alloc_new _ _)).cell 0
 have E:Bw w' X:=S.trans (kX.mono S.size)
 have ag:=aG (HP.below E)
 have af:Hid (X.heap[W.heap.size]?=some (.cells #[.func (.func 28) #[] #[Pt bn 0,Pt a 0,Pt b 0,Pt c 0]] 75 (0,0))):=(E.block _ (gl R)).trans R
 have q:=aG (IM 4 (by decide) V.heap.size Q sh X (t.keep kX) ai am (HT.below E) (Nat.lt_of_lt_of_le ad E.size) bX)
 have ab:=E.size
 have d:w.heap.size<=X.heap.size:=Nat.le_trans ac ab
 have HX:=aG hX
 clear hX kX bX E HP R HT t S d1 d2 y0 nf
 gi_wp2
 clear HX
 refine GP (α:=ia) rfl (by decide) (gf:=65) (lb:=#[Pt V.heap.size 0]) rfl trivial (enters_of Tryz.func65 (by kernel_rfl) rfl) q KC.trans KC.putObj (Below.refl _ _) (fun _=>rfl)
  (fun G Y=>uj w bn a b c G Y/\Y.heap[W.heap.size]?=some (.cells #[.func (.func 28) #[] #[Pt bn 0,Pt a 0,Pt b 0,Pt c 0]] 75 (0,0)))
  (fun G A C row hs H f=>⟨uj.own d G A C row hs.1 H f,pY H (fun r e=>(f r e).2) hs.2⟩)
  ⟨ag,af⟩
  (fun z a' Y=>∃p,a'={tmps:=#[.func (.func 28) #[] #[Pt bn 0,Pt a 0,Pt b 0,Pt c 0],Pt u 0,Pt W.heap.size 0,Pt p 0,aF F,.bool false,.bool false,.func (.func 28) #[] #[Pt bn 0,Pt a 0,Pt b 0,Pt c 0],.bool false,.bool false,aF F,Pt F 0,Pt F 0,aF bP,aF Q,.func (.func 65) #[] #[Pt V.heap.size 0],.agg (kj z.1 z.2.1 z.2.2),undef,undef,undef,undef],defers:=[]}/\Y.heap[p]?=some (.cells (kj z.1 z.2.1 z.2.2) 32 (0,0))/\qH z Y)
  (fun z a' _ A C row hs H f=>by
   obtain⟨p,e,h1,h2⟩:=hs
   exact⟨p,e,pY H (fun r e=>(f r e).2) h1,h2.kc (KC.of_grown H (fun r e=>(f r e).2))⟩) ?assign ?body ?done
 case assign=>
  rintro lr G z Y K ⟨O,B⟩ J hK
  have kA:Bw Y (Y.alloc (.cells (kj z.1 z.2.1 z.2.2) 32)):=ba Y _
  have HK:=aG (hK {tmps:=#[.func (.func 28) #[] #[Pt bn 0,Pt a 0,Pt b 0,Pt c 0],Pt u 0,Pt W.heap.size 0,Pt Y.heap.size 0,aF F,.bool false,.bool false,.func (.func 28) #[] #[Pt bn 0,Pt a 0,Pt b 0,Pt c 0],.bool false,.bool false,aF F,Pt F 0,Pt F 0,aF bP,aF Q,.func (.func 65) #[] #[Pt V.heap.size 0],.agg (kj z.1 z.2.1 z.2.2),undef,undef,undef,undef],defers:=[]} _ (KeepsFrom.of_grownBy (eO kA) (fun j e=>by cases e)) (KC.of_below kA) ⟨O.below kA,(kA.block _ (gl B)).trans B⟩ ⟨_,rfl,heap_alloc_new _ _,J.kc (KC.of_below kA)⟩)
  clear O B hK kA
  obtain⟨⟨ra,rb,rn,rf,Z,T,a9,a8⟩,la,lb⟩:=z
  obtain⟨pa,ca,ea⟩:=aI J.1
  obtain⟨pb,cb,eb⟩:=aI J.2
  dsimp only at ea eb
  subst ea eb
  clear J
  simp only[kj,sK]at HK⊢
  gi_wp2
  exact HK
 case done=>
  rintro Dn xs Y ae hS ⟨O,_⟩ hd
  gi_wp2
  refine⟨by simp,.inl ⟨_,_,rfl,run_takeDeferred hd,?_⟩⟩
  refine⟨_,results_none rfl _ _ _,⟨_,rfl⟩,xs,hS,(uj.own d).putObj _ O ae hd rfl⟩
 case body=>
  rintro lr G z a' Y an ⟨O,B⟩ ⟨p,rfl,hp,J⟩ g
  have HC:=aG (GZ O J g hg X.heap.size)
  have y0:Ce Y W.heap.size 0 (.func (.func 28) #[] #[Pt bn 0,Pt a 0,Pt b 0,Pt c 0]):=(aA B).cell 0
  have aj:=aG B
  obtain⟨⟨ra,rb,rn,rf,Z,T,a9,a8⟩,la,lb⟩:=z
  have M:=aA hp
  simp only[kj]at M HC
  have a0:Ce Y p 0 (aB ra):=M.cell 0
  have a1:Ce Y p 1 (aB rb):=M.cell 1
  have a2:Ce Y p 2 (aB rn):=M.cell 2
  have a3:Ce Y p 3 (aB rf):=M.cell 3
  have a4:Ce Y p 4 (aB Z):=M.cell 4
  have a5:Ce Y p 5 (aB T):=M.cell 5
  have a6:Ce Y p 6 la:=M.cell 6
  have a7:Ce Y p 7 lb:=M.cell 7
  clear O B J hp M
  gi_wp2
  refine⟨trivial,?_⟩
  refine(CallsIn.inRound lr (callsIn_wide.2 HC)).mono ?_
  rintro e Y2 ⟨rfl,o,k,hf2⟩
  obtain⟨ah,s,ak⟩:=bY o k hf2
  clear o k hf2 HC y0 a0 a1 a2 a3 a4 a5 a6 a7
  gi_wp2
  exact⟨ak,s,ah,s.cs _ _ _ _ aj (pP (by decide) (by decide) (by decide))⟩
end
section
attribute [local go_sem] Oper.semAt_some
theorem zx(A:Nat)(w:World):
  Calls Tryz.prog 27 #[aF A] w fun e w'=>e=.returned (.func (.func 43) #[] #[Pt w.heap.size 0])/\w'=w.alloc (.cells #[aF A] 35):=by
 go_in
 go_wp2_with fail
 go_ret
 exact⟨rfl,rfl⟩
structure tW(w W:World)(lv:Value)(xs:List ia):Prop where
 own:W.ownsRow w.heap.size 32 8 lv xs.length (pF xs)
 g:∀x∈xs,qH x W
 kp:Below w.heap.size w W
theorem sO(R C bP H:Nat){y:Fl}{held:List Nat}(c:∀V,Bw w V->Ca 46 #[aF bP] V fun r i=>∃d,r=.returned (aF d)/\nH i d y/\Bw V i)(ok:yi y x l held L H)(h:wy x (x.accs l H))(b:Tz w)(hg:0< w.heap.size)(O:w.cell? (Ad R 0)=some (aF C))(P:w.cell? (Ad C 0)=some (aF bP)):
  Calls Tryz.prog 13 #[aF R,aB (-1)] w fun e W'=>∃G,e=.returned (.tuple #[G,aB 0])/\∃F:List ia,F.map (·.1)=x.repsOf held L (el (x.accs l H))/\tW w W' G F:=by
 have s:=aD O
 have t:=aD P
 obtain⟨D,B⟩:=bM ((((w.alloc (.cells #[aB 5000] 3)).alloc (.cells #[.slice none 0 0] 28)).alloc (.cells #[aB 0] 3)).alloc (.cells #[.bool false] 4))
 have J:Bw w D:=by rw[B];exact(((ba w _).alloc (by simp) _).alloc (by simp;omega) _).alloc (by simp;omega) _
 have Y:D.heap[w.heap.size]?=some (.cells #[aB 5000] 3 (0,0)):=by
  rw[B]
  exact(Below.heap_alloc _ _ _ (by simp;omega)).trans ((Below.heap_alloc _ _ _ (by simp;omega)).trans ((Below.heap_alloc _ _ _ (by simp)).trans (heap_alloc_new _ _)))
 have W:D.heap[w.heap.size+1]?=some (.cells #[.slice none 0 0] 28 (0,0)):=by
  rw[B]
  refine(Below.heap_alloc _ _ _ (by simp)).trans ((Below.heap_alloc _ _ _ (by simp)).trans ?_)
  have:=heap_alloc_new (w.alloc (.cells #[aB 5000] 3)) (.cells #[.slice none 0 0] 28)
  rw[World.size_alloc]at this
  exact this
 have T:D.heap[w.heap.size+1+1]?=some (.cells #[aB 0] 3 (0,0)):=by
  rw[B]
  refine(Below.heap_alloc _ _ _ (by simp)).trans ?_
  have:=heap_alloc_new ((w.alloc (.cells #[aB 5000] 3)).alloc (.cells #[.slice none 0 0] 28)) (.cells #[aB 0] 3)
  rw[World.size_alloc,World.size_alloc]at this
  exact this
 have S:D.heap[w.heap.size+1+1+1]?=some (.cells #[.bool false] 4 (0,0)):=by
  rw[B]
  have:=heap_alloc_new (((w.alloc (.cells #[aB 5000] 3)).alloc (.cells #[.slice none 0 0] 28)).alloc (.cells #[aB 0] 3)) (.cells #[.bool false] 4)
  rw[World.size_alloc,World.size_alloc,World.size_alloc]at this
  exact this
 have K:uj w (w.heap.size+1+1+1) (w.heap.size+1+1) (w.heap.size+1) w.heap.size [] D:=⟨S,Y,T,⟨_,W,rfl,.inl ⟨rfl,rfl⟩⟩,fun x m=>by simp at m,J,by omega,by omega⟩
 have p:((((w.alloc (.cells #[aB 5000] 3)).alloc (.cells #[.slice none 0 0] 28)).alloc (.cells #[aB 0] 3)).alloc (.cells #[.bool false] 4)).cell? (Ad R 0)=some (aF C):=by rw[<-B];exact bc J O
 have N:Bw D (D.alloc (.cells #[aF C] 35)):=ba D _
 have f:Ce (D.alloc (.cells #[aF C] 35)) D.heap.size 0 (aF C):=(aA (heap_alloc_new _ _)).cell 0
 have A:Bw w (D.alloc (.cells #[aF C] 35)):=J.trans (N.mono J.size)
 obtain⟨M,j⟩:=aN (Br D.heap.size C bP H (K.below N) (fun V n=>c V (A.trans (n.mono A.size))) ok h (b.below A) hg f (bc A P)) B
 clear c ok h b P O J Y W T S K N f A B
 go_in
 go_wp2_with fail
 rw[<-j.out]
 refine(zx _ _).mono ?_
 rintro e E ⟨rfl,rfl⟩
 go_wp2_with fail
 refine M.mono ?_
 rintro e X ⟨⟨v,rfl⟩,F,hxs,hP⟩
 obtain⟨G,a,Z⟩:=hP.ls
 have z:Ce X (w.heap.size+1) 0 G:=(aA a).cell 0
 have u:Ce X (w.heap.size+1+1) 0 (aB 0):=(aA hP.late).cell 0
 have q:=aG (show∃F:List ia,F.map (·.1)=x.repsOf held L (el (x.accs l H))/\tW w X G F from⟨F,hxs,Z,hP.g,hP.kp⟩)
 clear a Z hP hxs M j p
 go_wp2_with fail
 go_quiet (fail)
 go_wp2_with fail
 go_ret2
 obtain⟨k,o,Q⟩:=q
 exact⟨G,rfl,k,o,Q.own,Q.g,aR Q.kp _⟩
theorem vn(C D bP A:Nat){y:Fl}{held:List Nat}(M:∀V,Bw w V->Ca 46 #[aF bP] V fun r P=>∃N,r=.returned (aF N)/\nH P N y/\Bw V P)(ok:yi y x l held L A)(O:wy x (x.accs l A))(G:Tz w)(hg:0< w.heap.size)(J:w.cell? (Ad C 0)=some (aF D))(K:w.cell? (Ad D 0)=some (aF bP)):
  Calls Tryz.prog 8 #[aF C] w fun e W'=>∃B,e=.returned B/\∃E:List ia,E.map (·.1)=x.repsOf held L (el (x.accs l A))/\tW w W' B E:=by
 have H:=aG (sO C D bP A M ok O G hg J K)
 clear M ok O G hg J K
 go_in
 go_wp2_with fail
 refine H.mono ?_
 rintro e X ⟨B,rfl,F⟩
 have Q:=aG F
 clear F H
 go_wp2_with fail
 go_ret
 exact⟨B,rfl,Q⟩
end
def eM.p:eM->Ph
 |.mk p _ _=>p
abbrev FH:=List (Option Fs)
mutual
def Iz(fn:Nat):eM->Int->FH->FH
 |.mk p r [],nx,T=>T.set p.place (some ⟨p,r,fn,nx,0⟩)
 |.mk p r (b::bs),nx,T=>
  if p.kind=13 then
   match jY fn b nx T with
   |(T1,i)=>match IA fn bs nx T1 with
    |(T2,n2)=>T2.set p.place (some ⟨p,r,fn,n2,i⟩)
  else if p.kind=14 then
   match jY fn b p.place T with
   |(T1,i)=>T1.set p.place (some ⟨p,r,fn,nx,i⟩)
  else T.set p.place (some ⟨p,r,fn,nx,0⟩)
def IA(fn:Nat):List (List eM)->Int->FH->FH×Int
 |[],nx,T=>(T,nx)
 |c::_,nx,T=>jY fn c nx T
def jY(fn:Nat):List eM->Int->FH->FH×Int
 |[],nx,T=>(T,nx)
 |s::l,nx,T=>match jY fn l nx T with
  |(T1,n1)=>(Iz fn s n1 T1,s.p.place)
end
mutual
def Hv(n:Nat):eM->Bool
 |.mk p _ bls=>decide (p.place< n)&&(decide (p.kind≠13/\p.kind≠14)||decide (bls.length≠0/\p.kind≠14))&&decide (bls.length<=2)&&KR n bls
def KR(n:Nat):List (List eM)->Bool
 |[]=>true
 |l::ls=>Gh n l&&KR n ls
def Gh(n:Nat):List eM->Bool
 |[]=>true
 |s::l=>Hv n s&&Gh n l
end
theorem ED{l:List eM}{s:eM}(h:Gh n l=true)(e:l[k]?=some s):Hv n s=true:=by
 induction l generalizing k with
 |nil=>simp at e
 |cons a l ih=>
  simp only[Gh,Bool.and_eq_true]at h
  cases k with
  |zero=>simp at e;rw[<-e];exact h.1
  |succ k=>exact ih h.2 (by simpa using e)
def mJ:Option (Nat×Fs)->List Value
 |none=>[.pointer none,.int .i64 0,.int .i64 0,.int .i64 0]
 |some y=>ui y
def iF(l:List (Option (Nat×Fs))):List Value:=l.flatMap mJ
def er(l:List (Option (Nat×Fs))):FH:=l.map (Option.map Prod.snd)
theorem gW(o:Option (Nat×Fs)):(mJ o).length=4:=by cases o<;>rfl
theorem uu(l:List (Option (Nat×Fs))):(iF l).length=l.length*4:=by
 induction l with
 |nil=>rfl
 |cons a l ih=>simp only[iF,List.flatMap_cons,List.length_append,List.length_cons,gW]at ih⊢;rw[ih];omega
theorem yz(l:List (Option (Nat×Fs)))(k j:Nat)(A:j< 4):(iF l)[k*4+j]?=(l[k]?).bind (fun o=>(mJ o)[j]?):=by
 induction l generalizing k with
 |nil=>simp[iF]
 |cons a l ih=>
  have e:iF (a::l)=mJ a++iF l:=rfl
  rw[e]
  cases k with
  |zero=>rw[List.getElem?_append_left (by rw[gW];omega)];simp
  |succ k=>rw[List.getElem?_append_right (by rw[gW];omega),gW,show(k+1)*4+j-4=k*4+j by omega,ih];simp
theorem Bd(l:List (Option (Nat×Fs)))(k:Nat)(y:Nat×Fs)(h:k< l.length):
  ((((iF l).set (k*4) (aF y.1)).set (k*4+1) (aB y.2.fn)).set (k*4+2) (aB y.2.nx)).set (k*4+3) (aB y.2.ins)=iF (l.set k (some y)):=by
 induction l generalizing k with
 |nil=>simp at h
 |cons a l ih=>
  cases k with
  |zero=>
   have e:iF (a::l)=mJ a++iF l:=rfl
   have F:=gW a
   rw[e]
   obtain⟨a0,D,C,B,E⟩:∃a0 D C B,mJ a=[a0,D,C,B]:=by cases a with|none=>exact⟨_,_,_,_,rfl⟩|some y=>exact⟨_,_,_,_,rfl⟩
   rw[E]
   rfl
  |succ k=>
   have e:∀b,iF (b::l)=mJ b++iF l:=fun _=>rfl
   have:=ih k (by simpa using h)
   rw[List.set_cons_succ,e a]
   show _=mJ a++iF (l.set k (some y))
   rw[<-this,show(k+1)*4=4+k*4 by omega]
   have A:∀(m:List Value) (i:Nat) (v:Value),(mJ a++m).set (4+i) v=mJ a++m.set i v:=fun m i v=>by
    rw[List.set_append_right _ _ (by rw[gW];omega),gW];congr 2;omega
   rw[A,show 4+k*4+1=4+(k*4+1)by omega,A,show 4+k*4+2=4+(k*4+2)by omega,A,show 4+k*4+3=4+(k*4+3)by omega,A]
theorem CI(l:List (Option (Nat×Fs)))(k:Nat)(y:Nat×Fs):er (l.set k (some y))=(er l).set k (some y.2):=by simp[er,List.map_set]
structure sg(w:World)(bF g n:Nat)(tb:List (Option (Nat×Fs)))(W:World):Prop where
 sl:W.cell? ⟨bF,3,none⟩=some (.slice (some ⟨g,0,none⟩) n n)
 row:W.heap[g]?=some (.cells (iF tb).toArray 253 (0,0))
 len:tb.length=n
 kp:Below w.heap.size w W
 hg:w.heap.size<=g
 hF:w.heap.size<=bF
 ne:g≠bF
 at':∀(k b:Nat) (s:Fs),tb[k]?=some (some (b,s))->∃sr sb,aM w b (bK s.p sr sb)/\w.ownsRow 0 258 4 sr s.r.length (eF s.r)
theorem sg.below{W':World}{A:List (Option (Nat×Fs))}(h:sg w a g n A W)(k:Bw W W'):sg w a g n A W':=
 ⟨bc k h.sl,(k.block _ (gl h.row)).trans h.row,h.len,h.kp.trans (k.mono h.kp.size),h.hg,h.hF,h.ne,h.at'⟩
theorem sg.put{A:List (Option (Nat×Fs))}{s:Fs}(h:sg w a g n A W)(D:k< n)(G:∃sr sb,aM w b (bK s.p sr sb)/\w.ownsRow 0 258 4 sr s.r.length (eF s.r)):
  sg w a g n (A.set k (some (b,s))) ((((W.setCell ⟨g,k*4,none⟩ (aF b)).setCell ⟨g,k*4+1,none⟩ (.int .i64 s.fn)).setCell ⟨g,k*4+2,none⟩ (.int .i64 s.nx)).setCell ⟨g,k*4+3,none⟩ (.int .i64 s.ins))/\aC (aK g) W ((((W.setCell ⟨g,k*4,none⟩ (aF b)).setCell ⟨g,k*4+1,none⟩ (.int .i64 s.fn)).setCell ⟨g,k*4+2,none⟩ (.int .i64 s.nx)).setCell ⟨g,k*4+3,none⟩ (.int .i64 s.ins)):=by
 have C:aC (aK g) W ((((W.setCell (Ad g (k*4)) (aF b)).setCell (Ad g (k*4+1)) (aB s.fn)).setCell (Ad g (k*4+2)) (aB s.nx)).setCell (Ad g (k*4+3)) (aB s.ins)):=
  ((((aC.refl _ W).set1 _ _).set1 _ _).set1 _ _).set1 _ _
 refine⟨⟨?_,?_,by simp[h.len],aY h.kp C h.hg,h.hg,h.hF,h.ne,fun j M F e=>?_⟩,C⟩
 ·rw[C.cell (p:=Ad a 3) (aD h.sl) (fun e=>h.ne e.symm)]
  exact h.sl
 ·have L:=heap_setCell h.row (k*4) (aF b)
  have K:=heap_setCell L (k*4+1) (aB s.fn)
  have J:=heap_setCell K (k*4+2) (aB s.nx)
  have E:=heap_setCell J (k*4+3) (aB s.ins)
  have H:((((iF A).toArray.setIfInBounds (k*4) (aF b)).setIfInBounds (k*4+1) (aB s.fn)).setIfInBounds (k*4+2) (aB s.nx)).setIfInBounds (k*4+3) (aB s.ins)=(iF (A.set k (some (b,s)))).toArray:=by
   rw[<-Bd A k (b,s) (by rw[h.len];exact D)]
   simp only[List.setIfInBounds_toArray]
  rw[H]at E
  exact E
 ·by_cases B:j=k
  ·subst B
   rw[List.getElem?_set_self (by rw[h.len];exact D)]at e
   cases e
   exact G
  ·rw[List.getElem?_set_ne (Ne.symm B)]at e
   exact h.at' j M F e
theorem cV.get{P:Nat->Prop}{l:List eM}(h:cV w P L l){s:eM}(e:l[k]?=some s):∃b,L[k]?=some b/\∃Q,il w Q b s:=by
 induction L generalizing l P k with
 |nil=>cases h;simp at e
 |cons b L ih=>
  cases h with
  |cons h1 h2 _ _=>
   cases k with
   |zero=>simp at e;exact⟨b,rfl,_,e▸h1⟩
   |succ k=>exact ih h2 (by simpa using e)
theorem dM.get{P:Nat->Prop}{vs:List Value}{A:List (List eM)}(h:dM w P vs A){l:List eM}(e:A[k]?=some l):∃v B,vs[k]?=some v/\w.ownsRow 0 167 1 v B.length (fg B)/\∃Q,cV w Q B l:=by
 induction vs generalizing A P k with
 |nil=>cases h;simp at e
 |cons v vs ih=>
  cases h with
  |cons h1 h2 h3 _ _=>
   cases k with
   |zero=>simp at e;exact⟨v,_,rfl,h1.1,_,e▸h2⟩
   |succ k=>exact ih h3 (by simpa using e)
def FI(s:eM):Prop:=∀(w W:World) (P:Nat->Prop) (b fn:Nat) (nx:Int) (bF g n:Nat) (tb:List (Option (Nat×Fs))),il w P b s->Hv n s=true->sg w bF g n tb W->
 Calls Tryz.prog 105 #[aF bF,.int .i64 fn,aF b,.int .i64 nx] W fun r W'=>r=.returned (.tuple #[])/\∃tb',er tb'=Iz fn s nx (er tb)/\sg w bF g n tb' W'/\aC (aK g) W W'
def AD(l:List eM):Prop:=∀(w W:World) (P:Nat->Prop) (bs:List Nat) (v:Value) (fn:Nat) (nx:Int) (bF g n:Nat) (tb:List (Option (Nat×Fs))),cV w P bs l->w.ownsRow 0 167 1 v bs.length (fg bs)->Gh n l=true->sg w bF g n tb W->
 Calls Tryz.prog 69 #[aF bF,.int .i64 fn,v,.int .i64 nx] W fun r W'=>r=.returned (.int .i64 (jY fn l nx (er tb)).2)/\∃tb',er tb'=(jY fn l nx (er tb)).1/\sg w bF g n tb' W'/\aC (aK g) W W'
theorem vx(A:Nat)(l:List eM)(nx:Int)(T:FH){s:eM}(h:l[k]?=some s):jY A (l.drop k) nx T=(Iz A s (jY A (l.drop (k+1)) nx T).2 (jY A (l.drop (k+1)) nx T).1,(s.p.place:Int)):=by
 have B:k< l.length:=(List.getElem?_eq_some_iff.1 h).1
 have:l.drop k=s::l.drop (k+1):=by
  rw[List.drop_eq_getElem_cons B]
  congr 1
  rw[List.getElem?_eq_getElem B]at h
  exact Option.some.inj h
 rw[this,jY]
theorem CR{l:List eM}(u:∀s∈l,FI s):AD l:=by
 intro w W P bs v C nx d g n F a G J y
 have D:bs.length=l.length:=a.len
 rw[D]at G
 obtain⟨pv,cv,rfl⟩:=aI G
 have a3:=aG D
 clear D
 have X:l.length<=maxLen:=by
  rcases G.2 with⟨_,h⟩|⟨_,cap,_,_,_,_,h1,h2,_⟩<;>omega
 unfold maxLen at X
 obtain⟨HL,HR,j,o,HT⟩:=ma u a G J y
 clear u a G J y
 go_in
 go_wp2_with fail
 go_loopw [3,9] (fun z i wr=>∃k:Nat,i=aB ((k:Int)-1)/\k<=l.length/\z=aB (jY C (l.drop k) nx (er F)).2/\Hid (∃A,er A=(jY C (l.drop k) nx (er F)).1/\sg w d g n A wr/\aC (aK g) W wr)) (fun _ i _=>(intOf i+1).toNat)
 case atStart=>exact⟨l.length,by go_num,Nat.le_refl _,by rw[List.drop_length];rfl,⟨F,by rw[List.drop_length];rfl,HT,aC.refl _ _⟩⟩
 case round=>
  obtain⟨k,rfl,hk,rfl,R⟩:=hrel
  by_cases Y:k=0
  ·subst Y
   have Z:¬((0:Int)<=((0:Nat):Int)-1):=by omega
   go_wp2_with fail
   go_ret
   simp only[List.drop_zero]at R⊢
   exact⟨rfl,R⟩
  ·obtain⟨m,rfl⟩:∃m,k=m+1:=⟨k-1,by omega⟩
   have Z:(0:Int)<=((m+1:Nat):Int)-1:=by omega
   obtain⟨s,H⟩:∃s,l[m]?=some s:=⟨_,List.getElem?_eq_getElem (by omega)⟩
   obtain⟨b,x,Q,c⟩:=HR.get H
   obtain⟨T,e1,E,M⟩:=R.out
   obtain⟨gb,cb,e⟩:=aO j (by omega)
   cases e
   have ap:Ce wr gb m (aF b):=gg (aP j E.kp) (by simp[fg,x])
   have K:=aG (HL s (List.mem_of_getElem? H) w wr Q b C (jY C (l.drop (m+1)) nx (er F)).2 d g n T c (ED o H) E)
   obtain⟨sr,sb,N⟩:∃sr sb,aM w b (bK s.p sr sb):=by cases c with|mk _ h _ _ _ _=>exact⟨_,_,h⟩
   obtain⟨t,q⟩:=aN N M
   have a1:(0:Int)<=m:=by omega
   have a0:((m:Int)< l.length):=by omega
   clear E M N c R
   go_wp2_with fail
   refine K.mono ?_
   rintro r O ⟨rfl,S,e2,B,L⟩
   have a2:Ce O gb m (aF b):=gg (aP j B.kp) (by simp[fg,x])
   have pl:Ce O b 1 (aB s.p.place):=(t.below B.kp).cell 1
   have f:Hid (∃A,er A=(jY C (l.drop m) nx (er F)).1/\sg w d g n A O/\aC (aK g) W O):=⟨S,by rw[e2,e1,vx C l nx _ H],B,q.trans' L (fun i e=>.inl e)⟩
   have V:(jY C (l.drop m) nx (er F)).2=(s.p.place:Int):=by rw[vx C l nx _ H]
   clear B L K ap
   go_wp2_with fail
   go_roundw
   case rel=>exact⟨m,by go_num,by omega,by rw[V],f⟩
   case measure=>simp[intOf]
structure gM(w W D:World)(b fn g bF n:Nat)(nx ins:Int)(p:Ph)(r:List Pa)(tb:List (Option (Nat×Fs)))(bx:Nat):Prop where
 fw:sg w bF g n tb D
 kp:aC (aK g) W D
 box:aM D bx #[aF b,.int .i64 fn,.int .i64 nx,.int .i64 ins]
 bs:∃sr sb,aM w b (bK p sr sb)/\w.ownsRow 0 258 4 sr r.length (eF r)
 pl:p.place< n
 ne:bx≠g
theorem gM.cells{nx ins:Int}{p:Ph}{r:List Pa}{C:List (Option (Nat×Fs))}(h:gM w W D b a g d n nx ins p r C e):
  ∃H G F E,D.cell? (Ad g (p.place*4))=some H/\D.cell? (Ad g (p.place*4+1))=some G/\D.cell? (Ad g (p.place*4+2))=some F/\D.cell? (Ad g (p.place*4+3))=some E/\D.frozen? (Ad g (p.place*4))=false/\D.frozen? (Ad g (p.place*4+1))=false/\D.frozen? (Ad g (p.place*4+2))=false/\D.frozen? (Ad g (p.place*4+3))=false:=by
 have A:=aA h.fw.row
 have K:=h.pl
 have J:=h.fw.len
 obtain⟨o,L⟩:∃o,C[p.place]?=some o:=⟨_,List.getElem?_eq_getElem (by omega)⟩
 have R:=gW o
 have B:∀j,j< 4->∃c,D.cell? (Ad g (p.place*4+j))=some c:=fun j M=>by
  refine⟨(mJ o)[j]'(by omega),?_⟩
  rw[A.cell]
  have:=yz C p.place j M
  rw[L]at this
  simp only[List.getElem?_toArray]
  rw[this]
  simp[List.getElem?_eq_getElem (show j< (mJ o).length by omega)]
 obtain⟨H,Q⟩:=B 0 (by omega)
 obtain⟨G,P⟩:=B 1 (by omega)
 obtain⟨F,O⟩:=B 2 (by omega)
 obtain⟨E,N⟩:=B 3 (by omega)
 exact⟨H,G,F,E,Q,P,O,N,A.fz _,A.fz _,A.fz _,A.fz _⟩
theorem gM.step{v:World}{nx ins:Int}{p:Ph}{r:List Pa}{C A:List (Option (Nat×Fs))}{f:Nat}(h:gM w W D b c g d n nx ins p r C f)(E:sg w d g n A v)(B:aC (aK g) D v):gM w W v b c g d n nx ins p r A f:=
 ⟨E,h.kp.trans' B (fun i e=>.inl e),h.box.only B h.ne,h.bs,h.pl,h.ne⟩
theorem gM.fw'{nx ins:Int}{p:Ph}{r:List Pa}{B:List (Option (Nat×Fs))}(h:gM w W D b a g c n nx ins p r B d)(F:W.heap.size<=d)(C:c< W.heap.size)(E:w.heap.size<=W.heap.size)(j:Nat)(u:Value):sg w c g n B (D.setCell ⟨d,j,none⟩ u)/\aC (aK g) W (D.setCell ⟨d,j,none⟩ u):=by
 have A:aC (aK d) D (D.setCell (Ad d j) u):=(aC.refl _ D).set1 _ _
 refine⟨⟨?_,?_,h.fw.len,aY h.fw.kp A (by omega),h.fw.hg,h.fw.hF,h.fw.ne,h.fw.at'⟩,h.kp.trans' A (fun i e=>.inr ?_)⟩
 ·rw[A.cell (p:=Ad c 3) (aD h.fw.sl) (fun e=>by have e:c=d:=e;omega)]
  exact h.fw.sl
 ·exact(A.block g (gl h.fw.row) (fun e=>h.ne (show g=d from e).symm)).trans h.fw.row
 ·have e:i=d:=e
  omega
theorem gM.ins{nx ins:Int}{p:Ph}{r:List Pa}{B:List (Option (Nat×Fs))}(h:gM w W D b a g c n nx ins p r B d)(E:W.heap.size<=d)(A:c< W.heap.size)(C:w.heap.size<=W.heap.size)(i:Int):gM w W (D.setCell ⟨d,3,none⟩ (.int .i64 i)) b a g c n nx i p r B d:=
 ⟨(h.fw' E A C 3 _).1,(h.fw' E A C 3 _).2,h.box.set 3 _ (by simp),h.bs,h.pl,h.ne⟩
theorem gM.nx{nx ins:Int}{p:Ph}{r:List Pa}{B:List (Option (Nat×Fs))}(h:gM w W D b a g c n nx ins p r B d)(E:W.heap.size<=d)(A:c< W.heap.size)(C:w.heap.size<=W.heap.size)(i:Int):gM w W (D.setCell ⟨d,2,none⟩ (.int .i64 i)) b a g c n i ins p r B d:=
 ⟨(h.fw' E A C 2 _).1,(h.fw' E A C 2 _).2,h.box.set 2 _ (by simp),h.bs,h.pl,h.ne⟩
theorem zi{p:Ph}{r:List Pa}{H:List (List eM)}(R:p.kind≠13)(O:p.kind≠14):FI (.mk p r H):=by
 intro w W P b E nx V g n L q F K
 have J:Iz E (.mk p r H) nx (er L)=(er L).set p.place (some ⟨p,r,E,nx,0⟩):=by
  cases H with
  |nil=>rfl
  |cons c cs=>rw[Iz,if_neg R,if_neg O]
 rw[J]
 cases q with
 |@mk _ Q _ _ sr sb _ _ vs hPb hB h1 h2 h3 h4=>
 have B:=hB.below K.kp
 have v:Ce W b 1 (aB p.place):=B.cell 1
 have u:Ce W b 2 (aB p.kind):=B.cell 2
 have N:=B.lt
 have T:((p.kind:Int)==13)=false:=by rw[beq_eq_false_iff_ne];omega
 have S:((p.kind:Int)==14)=false:=by rw[beq_eq_false_iff_ne];omega
 have Y:=K.sl
 have f:=aD Y
 have M:p.place< n:=by
  simp only[Hv,Bool.and_eq_true,decide_eq_true_eq]at F
  exact F.1.1.1
 have kA:Bw W (W.alloc (.cells #[aF b,aB E,aB nx,aB 0] 253)):=ba W _
 have A:Hid (gM w W (W.alloc (.cells #[aF b,aB E,aB nx,aB 0] 253)) b E g V n nx 0 p r L W.heap.size):=
  ⟨K.below kA,aC.of_below kA,aM.new _ _ _,⟨sr,sb,hB,h1.1⟩,M,fun e=>by have:=(gl K.row);omega⟩
 clear hB h1 h2 h3 h4 B K F kA J hPb
 go_in
 go_wp2_with fail
 obtain⟨D,X⟩:=bM (W.alloc (.cells #[aF b,aB E,aB nx,aB 0] 253))
 rw[<-X]at A⊢
 clear X v u Y N f T S
 obtain⟨Z,a,G,_⟩:=A.bs
 obtain⟨v0,v1,v2,v3,t,g1,g2,g3,f0,f1,f2,f3⟩:=A.cells
 have d3:Ce D V 3 (.slice (some (Ad g 0)) n n):=A.fw.sl
 have d1:Ce D b 1 (aB p.place):=(G.below A.fw.kp).cell 1
 have x0:Ce D W.heap.size 0 (aF b):=A.box.cell 0
 have z:Ce D W.heap.size 1 (aB E):=A.box.cell 1
 have y:Ce D W.heap.size 2 (aB nx):=A.box.cell 2
 have x:Ce D W.heap.size 3 (aB 0):=A.box.cell 3
 have j:(0:Int)<=p.place:=by omega
 have h:(p.place:Int)< n:=by have:=A.pl;omega
 have lg:=aD t
 have o:V≠g:=Ne.symm A.fw.ne
 have m:b≠g:=by have:=G.lt;have:=A.fw.hg;omega
 have l:W.heap.size≠g:=A.ne
 clear G
 go_region
 go_end0
 obtain⟨C,d⟩:=A.fw.put (k:=p.place) (b:=b) (s:=⟨p,r,E,nx,0⟩) A.pl A.bs
 exact⟨rfl,_,CI _ _ _,⟨C.sl,C.row,C.len,C.kp.drew,C.hg,C.hF,C.ne,C.at'⟩,(A.kp.trans' d (fun i e=>.inl e)).drew'⟩
theorem GG{p:Ph}{r:List Pa}{l:List eM}{C:List (List eM)}(aq:p.kind=13)(hl:AD l)(ab:∀c∈C,AD c):FI (.mk p r (l::C)):=by
 intro w W P b B nx bF g n H hR K y
 have aa:Iz B (.mk p r (l::C)) nx (er H)=(IA B C nx (jY B l nx (er H)).1).1.set p.place (some ⟨p,r,B,(IA B C nx (jY B l nx (er H)).1).2,(jY B l nx (er H)).2⟩):=by
  rw[Iz,if_pos aq]
 rw[aa]
 cases hR with
 |@mk _ Q _ _ sr sb _ _ vs hPb hB h1 h2 h3 h4=>
 have a:=hB.below y.kp
 obtain⟨v,bb,hv,N,Q2,ae⟩:=h3.get (k:=0) (l:=l) rfl
 obtain⟨gs,cs,rfl⟩:=aO h2.1 (by simp)
 have c2:Ce W b 2 (aB p.kind):=a.cell 2
 have av:Ce W b 13 (.slice (some (Ad gs 0)) (l::C).length cs):=a.cell 13
 have cv:Ce W gs 0 v:=gg (aP h2.1 y.kp) hv
 obtain⟨pv,cw,rfl⟩:=aI N
 have b3:=a.lt
 have ao:=aD cv
 have ar:((p.kind:Int)==13)=true:=by rw[beq_iff_eq];omega
 have c3:=y.sl
 have l3:=aD c3
 have lg:=(gl y.row)
 have a6:=y.kp.size
 simp only[Hv,KR,Bool.and_eq_true,decide_eq_true_eq]at K
 have an:p.place< n:=K.1.1.1
 have a8:C=[]\/∃c,C=[c]:=by
  have h:=K.1.2
  rcases C with _|⟨c,_|⟨d,C⟩⟩
  ·exact .inl rfl
  ·exact .inr ⟨c,rfl⟩
  ·simp at h
 have a5:Hid (∀c,C=[c]->AD c/\Gh n c=true/\∃v bb Q3,vs[1]?=some v/\w.ownsRow 0 167 1 v bb.length (fg bb)/\cV w Q3 bb c):=fun c e=>by
  subst e
  obtain⟨v,bb,hv,N,Q3,Y⟩:=h3.get (k:=1) (l:=c) rfl
  refine⟨ab c (by simp),?_,v,bb,Q3,hv,N,Y⟩
  have:=K.2.2
  simpa[KR]using this
 have a4:=aG h2.1
 have kA:Bw W (W.alloc (.cells #[aF b,aB B,aB nx,aB 0] 253)):=ba W _
 obtain⟨D,hD⟩:=bM (W.alloc (.cells #[aF b,aB B,aB nx,aB 0] 253))
 rw[<-hD]at kA
 have j:Hid (gM w W D b B g bF n nx 0 p r H W.heap.size):=
  ⟨y.below kA,aC.of_below kA,by rw[hD];exact aM.new _ _ _,⟨sr,_,hB,h1.1⟩,an,by omega⟩
 obtain⟨aj,HD⟩:=aN (hl w D Q2 bb _ B nx bF g n H ae N K.2.1 (y.below kA)) hD
 have am:(0:Int)< ((l::C).length:Int):=by simp
 obtain⟨o,f,HB⟩:=bY l3 a6 hB
 clear hB h1 h2 h3 h4 a y K kA aa hPb N ae hD hv ab
 go_in
 go_wp2_with fail
 rw[show W.alloc (Obj.cells #[Value.pointer (some {block:=b,off:=0}),Value.int IntKind.i64 B,Value.int IntKind.i64 nx,Value.int IntKind.i64 0] 253)=D from HD.out.symm]
 refine aj.mono ?_
 rintro q W2 ⟨rfl,S,e2,ad,a2⟩
 have V:=j.box.only a2 j.ne
 have y3:Ce W2 W.heap.size 3 (aB 0):=V.cell 3
 have y4:W2.frozen? (Ad W.heap.size 3)=false:=V.fz 3
 have a9:=V.lt
 obtain⟨X,hX⟩:=bM (W2.setCell (Ad W.heap.size 3) (aB (jY B l nx (er H)).2))
 have E:Hid (gM w W X b B g bF n nx (jY B l nx (er H)).2 p r S W.heap.size):=by
  show gM _ _ _ _ _ _ _ _ _ _ _ _ _ _
  rw[hX]
  exact(j.step ad a2).ins (Nat.le_refl _) o f _
 have T:(W2.setCell (Ad W.heap.size 3) (aB (jY B l nx (er H)).2)).cell? (Ad b 13)=some (.slice (some (Ad gs 0)) (l::C).length cs):=by
  rw[<-hX];exact(HB.below E.fw.kp).cell 13
 obtain⟨HX,O⟩:=aN hX e2
 clear hX ad a2 e2 V aj j c2 av cv ao ar c3 l3 lg a6 HD am
 generalize x:(jY B l nx (er H)).2=ins at *
 have ah:=aG x
 clear x
 rcases a8 with rfl|⟨c,rfl⟩
 focus
  have L:Ce (W2.setCell (Ad W.heap.size 3) (aB ins)) b 13 (.slice (some (Ad gs 0)) 1 cs):=T
  clear T
  go_wp2_with fail
  obtain⟨Z,hZ⟩:=bM X
  obtain⟨F,G⟩:=bM nx
  obtain⟨R,a0⟩:=bM S
  rw[<-HX.out,<-hZ]
  rw[<-G,<-hZ,<-a0]at E
  have A:=aG E
  have ag:Hid ((IA B [] nx (jY B l nx (er H)).1).2=F):=G.symm
  have ai:Hid (er R=(IA B [] nx (jY B l nx (er H)).1).1):=by show _=_;rw[a0];exact O
  clear L y3 y4 a9 HX G a4 a5 o f HB O hZ a0 E
 rotate_left
 focus
  obtain⟨hC,u,v2,af,Q3,a7,M,Y⟩:=a5 c rfl
  obtain⟨ak,au,rfl⟩:=aI M
  have L:Ce (W2.setCell (Ad W.heap.size 3) (aB ins)) b 13 (.slice (some (Ad gs 0)) 2 cs):=T
  have al:(W2.setCell (Ad W.heap.size 3) (aB ins)).cell? (Ad gs 1)=some (.slice ak af.length au):=by
   rw[<-HX.out];exact gg (aP a4 E.fw.kp) a7
  have z:=aG (hC w X Q3 af _ B nx bF g n S Y M u E.fw)
  clear T hC u a7 M Y a5 a4
  go_wp2_with fail
  rw[<-HX.out]
  refine z.mono ?_
  rintro q W3 ⟨rfl,R,e3,ac,a1⟩
  have J:=E.box.only a1 E.ne
  have z2:Ce W3 W.heap.size 2 (aB nx):=J.cell 2
  have z4:W3.frozen? (Ad W.heap.size 2)=false:=J.fz 2
  have ap:=J.lt
  obtain⟨F,G⟩:∃m,(jY B c nx (er S)).2=m:=⟨_,rfl⟩
  rw[G]
  obtain⟨Z,hZ⟩:=bM (W3.setCell (Ad W.heap.size 2) (aB F))
  have A:Hid (gM w W Z b B g bF n F ins p r R W.heap.size):=by
   show gM _ _ _ _ _ _ _ _ _ _ _ _ _ _
   rw[hZ]
   exact(E.step ac a1).nx (Nat.le_refl _) o f _
  have ag:Hid ((IA B [c] nx (jY B l nx (er H)).1).2=F):=by show _=_;rw[<-O.out];exact G
  have ai:Hid (er R=(IA B [c] nx (jY B l nx (er H)).1).1):=by show _=_;rw[<-O.out];exact e3
  have HZ:=aG hZ
  clear L al y3 y4 a9 HX G o f HB O hZ E ac a1 e3 J z
  go_wp2_with fail
  rw[<-HZ.out]
  clear z2 z4 ap HZ
 all_goals
  obtain⟨aw,ax,a3,_⟩:=A.bs
  obtain⟨v0,v1,v2,v3,g0,g1,g2,g3,f0,f1,f2,f3⟩:=A.cells
  have d3:Ce Z bF 3 (.slice (some (Ad g 0)) n n):=A.fw.sl
  have d1:Ce Z b 1 (aB p.place):=(a3.below A.fw.kp).cell 1
  have x0:Ce Z W.heap.size 0 (aF b):=A.box.cell 0
  have x1:Ce Z W.heap.size 1 (aB B):=A.box.cell 1
  have x2:Ce Z W.heap.size 2 (aB F):=A.box.cell 2
  have x3:Ce Z W.heap.size 3 (aB ins):=A.box.cell 3
  have az:(0:Int)<=p.place:=by omega
  have ay:(p.place:Int)< n:=by have:=A.pl;omega
  have lg:=aD g0
  have b2:bF≠g:=Ne.symm A.fw.ne
  have b1:b≠g:=by have:=a3.lt;have:=A.fw.hg;omega
  have b0:W.heap.size≠g:=A.ne
  clear a3
  go_wp2_with fail
  go_region
  go_end0
  obtain⟨t,q2⟩:=A.fw.put (k:=p.place) (b:=b) (s:=⟨p,r,B,F,ins⟩) A.pl A.bs
  exact⟨rfl,_,(CI _ _ _).trans (by rw[ai.out,ag.out,ah.out]),⟨t.sl,t.row,t.len,t.kp.drew,t.hg,t.hF,t.ne,t.at'⟩,(A.kp.trans' q2 (fun i e=>.inl e)).drew'⟩
theorem DU(m:Nat):∀s:eM,SizeOf.sizeOf s< m->FI s:=by
 induction m with
 |zero=>intro s h;omega
 |succ m ih=>
  intro s H
  obtain⟨p,r,D⟩:=s
  have A:∀l∈D,AD l:=fun l J=>CR (fun s F=>ih s (by
   have R:=List.sizeOf_lt_of_mem J
   have Q:=List.sizeOf_lt_of_mem F
   simp at H
   omega))
  by_cases C:p.kind=13
  ·cases D with
   |nil=>
    intro w W P b N nx O g n G M B L
    simp[Hv,C]at B
   |cons l D=>exact GG C (A l (by simp)) (fun c K=>A c (by simp[K]))
  by_cases E:p.kind=14
  ·intro w W P b N nx O g n G M B L
   simp[Hv,E]at B
  ·exact zi C E
theorem yV(l:List eM):AD l:=CR (fun s _=>DU (SizeOf.sizeOf s+1) s (by omega))
structure Fw where
 T:FH:=[]
 begins:List Int:=[]
 main:Nat:=0
 mut_:Nat:=0
def rV(z:Fw)(d:Pd):Fw:=
 if d.kind=1 then{z with mut_:=z.mut_+1}
 else if d.kind=2 then
  match jY d.num d.body (-1) z.T with
  |(T1,i)=>{T:=T1,begins:=z.begins++[i],main:=if d.name=[109,97,105,110]then d.num else z.main,mut_:=z.mut_}
 else z
def Ky(l:List Pd)(n:Nat):Fw:=l.foldl rV {T:=List.replicate n none}
def Fw.fl(z:Fw):Fl:={main:=z.main,mutexes:=z.mut_,begins:=z.begins,stmts:=z.T.map (·.getD {})}
structure wv(l:List Pd)(n:Nat):Prop where
 body:∀d∈l,d.kind=2->Gh n d.body=true
 all:∀o∈(Ky l n).T,o.isSome=true
 few:l.length< 1000
 nm:n< 1000000
 n0:0< n
structure nG(w:World)(bF g n:Nat)(z:Fw)(wr:World):Prop where
 ex:∃gv tb,wr.heap[bF]?=some (.cells #[gv,.int .i64 z.main,.int .i64 z.mut_,.slice (some ⟨g,0,none⟩) n n] 185 (0,0))/\wr.ownsRow w.heap.size 3 1 gv z.begins.length (z.begins.map (Value.int .i64))/\sg w bF g n tb wr/\er tb=z.T
theorem nG.fin{wr:World}{z:Fw}(h:nG w c g n z wr)(O:∀o∈z.T,o.isSome=true)(X:n< 1000000):nH wr c z.fl:=by
 obtain⟨W,E,V,S,G,L⟩:=h.ex
 have F:∀(k:Nat) (o:Option (Nat×Fs)),E[k]?=some o->∃y,o=some y:=fun k o e=>by
  have:(er E)[k]?=some (o.map Prod.snd):=by simp[er,e]
  rw[L]at this
  have:=O _ (List.mem_of_getElem? this)
  cases o with
  |none=>simp at this
  |some y=>exact⟨y,rfl⟩
 have A:E=(E.map (fun o=>o.getD (0,{}))).map some:=by
  apply List.ext_getElem?
  intro k
  cases e:E[k]? with
  |none=>simp[e]
  |some o=>
   obtain⟨y,rfl⟩:=F k o e
   simp[e]
 obtain⟨D,H⟩:=bM (E.map (fun o=>o.getD (0,{})))
 rw[<-H]at A
 have C:z.fl.stmts=D.map Prod.snd:=by
  show z.T.map _=_
  rw[<-L,A]
  simp[er,Function.comp_def]
 have P:∀l:List (Nat×Fs),iF (l.map some)=kn l:=fun l=>by
  induction l with
  |nil=>rfl
  |cons a l ih=>
   show mJ (some a)++iF (l.map some)=ui a++kn l
   rw[ih];rfl
 have N:(D.map Prod.fst).zip (D.map Prod.snd)=D:=by
  clear A H C
  induction D with
  |nil=>rfl
  |cons a l ih=>simp[ih]
 have B:D.length=n:=by rw[<-G.len,A];simp
 refine⟨W,_,aA V,dP S 0 (Nat.zero_le _),⟨D.map Prod.fst,by rw[C];simp,?_,fun k b s J K=>?_⟩⟩
 ·rw[C,N,List.length_map,B]
  refine⟨by rw[vv,B],.inr ⟨g,n,_,rfl,Nat.zero_le _,G.row,Nat.le_refl _,?_,?_,?_⟩⟩
  ·unfold maxLen;omega
  ·rw[List.size_toArray,uu,G.len]
  ·rw[A,P,<-B,<-vv,List.take_length]
 ·rw[C]at K
  have e:E[k]?=some (some (b,s)):=by
   rw[A]
   rw[List.getElem?_map]at J K⊢
   cases M:D[k]? with
   |none=>rw[M]at J;cases J
   |some y=>
    rw[M]at J K
    cases J
    cases K
    rfl
  obtain⟨sr,sb,R,Q⟩:=G.at' k b s e
  exact⟨sr,sb,R.below G.kp,aP Q G.kp⟩
end Go.Proofs.YtajfbbldaiaolaaGreatDoor
