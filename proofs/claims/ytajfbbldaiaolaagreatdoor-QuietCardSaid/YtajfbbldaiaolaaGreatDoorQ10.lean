import Derived.Shelf.SlMaps.Clone
import Derived.BigQuiet
import Derived.Test.YtajfbbldaiaolaaGreatDoorQ09
set_option linter.unusedSimpArgs false
set_option linter.unusedVariables false
set_option maxRecDepth 100000
set_option maxHeartbeats 4000000
namespace Go.Proofs.YtajfbbldaiaolaaGreatDoor
open Go.RowKit Go.Maps Go.Shelf
variable {B K a b d n:Nat}{V u v w:World}{l:List Nat}{y z:Value}
def Cl(F:Nat):Prop:=∀(w:World) (b c:Nat) (es:Array MapEntry),w.heap[b]?=some (.map es c)->Calls Tryz.prog F #[.map (some b)] w fun e w'=>e=.returned (.map (some w.heap.size))/\w'=w.alloc (.map es c)
theorem bI.cl{κ α:Type}{T:Mt κ α}{F:Nat}{f:κ->Option α}(h:bI T w b n f)(C:Cl F):Ca F #[.map (some b)] w fun e w'=>e=.returned (.map (some w.heap.size))/\bI T w' w.heap.size n f/\Bw w w'/\w'.heap.size=w.heap.size+1:=by
 obtain⟨D,c,B,A⟩:=h.clone
 refine(C w b c D B).mono ?_
 rintro e w' ⟨rfl,rfl⟩
 exact⟨rfl,A,ba _ _,by simp⟩
theorem KF:Cl 116:=fun w b c C A=>by
 have B:=fun w=>run_eql_map_nil_sl (P:=Tryz.prog) w 244 _ _ (some b) Tryz.underlying244
 go_in
 go_wp2
 rw[run_callFunc_extern Tryz.func109 (by kernel_rfl) (by kernel_rfl) (by kernel_rfl) (e:=Extern.MapsClone.clone) (by kernel_rfl),run_maps_clone_sl w 244 A]
 simp only[Result.andThen]
 rw[Oper.upon_value]
 go_wp2
 rw[run_typeAssert_map_sl _ 244 20 _ _ _ Tryz.underlying244]
 simp only[Result.andThen]
 rw[Oper.upon_value]
 go_wp2
 go_ret
 exact⟨rfl,rfl⟩
theorem KB:Cl 111:=fun w b c C A=>by
 have B:=fun w=>run_eql_map_nil_sl (P:=Tryz.prog) w 246 _ _ (some b) Tryz.underlying246
 go_in
 go_wp2
 rw[run_callFunc_extern Tryz.func109 (by kernel_rfl) (by kernel_rfl) (by kernel_rfl) (e:=Extern.MapsClone.clone) (by kernel_rfl),run_maps_clone_sl w 246 A]
 simp only[Result.andThen]
 rw[Oper.upon_value]
 go_wp2
 rw[run_typeAssert_map_sl _ 246 20 _ _ _ Tryz.underlying246]
 simp only[Result.andThen]
 rw[Oper.upon_value]
 go_wp2
 go_ret
 exact⟨rfl,rfl⟩
theorem Gr:Cl 112:=fun w b c C A=>by
 have B:=fun w=>run_eql_map_nil_sl (P:=Tryz.prog) w 149 _ _ (some b) Tryz.underlying149
 go_in
 go_wp2
 rw[run_callFunc_extern Tryz.func109 (by kernel_rfl) (by kernel_rfl) (by kernel_rfl) (e:=Extern.MapsClone.clone) (by kernel_rfl),run_maps_clone_sl w 149 A]
 simp only[Result.andThen]
 rw[Oper.upon_value]
 go_wp2
 rw[run_typeAssert_map_sl _ 149 20 _ _ _ Tryz.underlying149]
 simp only[Result.andThen]
 rw[Oper.upon_value]
 go_wp2
 go_ret
 exact⟨rfl,rfl⟩
theorem KE:Cl 74:=fun w b c C A=>by
 have B:=fun w=>run_eql_map_nil_sl (P:=Tryz.prog) w 187 _ _ (some b) Tryz.underlying187
 go_in
 go_wp2
 rw[run_callFunc_extern Tryz.func109 (by kernel_rfl) (by kernel_rfl) (by kernel_rfl) (e:=Extern.MapsClone.clone) (by kernel_rfl),run_maps_clone_sl w 187 A]
 simp only[Result.andThen]
 rw[Oper.upon_value]
 go_wp2
 rw[run_typeAssert_map_sl _ 187 20 _ _ _ Tryz.underlying187]
 simp only[Result.andThen]
 rw[Oper.upon_value]
 go_wp2
 go_ret
 exact⟨rfl,rfl⟩
theorem KD:Cl 75:=fun w b c C A=>by
 have B:=fun w=>run_eql_map_nil_sl (P:=Tryz.prog) w 188 _ _ (some b) Tryz.underlying188
 go_in
 go_wp2
 rw[run_callFunc_extern Tryz.func109 (by kernel_rfl) (by kernel_rfl) (by kernel_rfl) (e:=Extern.MapsClone.clone) (by kernel_rfl),run_maps_clone_sl w 188 A]
 simp only[Result.andThen]
 rw[Oper.upon_value]
 go_wp2
 rw[run_typeAssert_map_sl _ 188 20 _ _ _ Tryz.underlying188]
 simp only[Result.andThen]
 rw[Oper.upon_value]
 go_wp2
 go_ret
 exact⟨rfl,rfl⟩
section
def kL:Mt (Int×Int) Int:=⟨90,oO,fun x=>kA [x.1,x.2],fun x=>.string (keyBytes (kI [x.1,x.2])),.int .i64,fun a=>.lit (.int .i64 a),fun x=>gu x.1/\gu x.2,gu⟩
structure Od where
 ck:Int×Int->Int->Int
 tc:Tk->Option Int
 nt:Nat
abbrev iU:=Int×Int->Option Nat
structure ip(w:World)(bo K:Nat)(F:iU)(o:Od):Prop where
 hd:∃(st:Int) (a b c d:Nat),(0<=st/\st<=K)/\F (2,0)=some a/\F (2,1)=some b/\F (2,2)=some c/\F (2,3)=some d/\w.heap[bo]?=some (.cells #[.int .i64 st,.map (some a),.map (some b),.map (some c),.map (some d)] 248 (0,0))
 rf:∀j b,j=0\/j=1->F (2,j)=some b->bI lU w b K (fun k=>F (j,k))
 ck:∀j k b,j=0\/j=1->F (j,k)=some b->eu w b K (o.ck (j,k))
 tc:∀b,F (2,2)=some b->bI iD w b K o.tc
 rc:∀b,F (2,3)=some b->bI kL w b 0 (fun _=>none)
 inj:∀x y b,F x=some b->F y=some b->x=y
 fd:∀x b,F x=some b->∃es c,w.heap[b]?=some (.map es c)
 nn:∀x y,0<=o.ck x y/\o.ck x y<=K
 z:∀k,F (1,k)=none->∀x,o.ck (1,k) x=0
 dm:∀k:Int,(F (0,k)).isSome=decide (0<=k/\k< o.nt)
 wk:∀x b,F x=some b->gu x.2
def gD{α β:Type}[DecidableEq α](f:α->β)(x:α)(v:β)(y:α):β:=if y=x then v else f y
theorem pj{α β:Type}[DecidableEq α](f:α->β)(x:α)(v:β):gD f x v x=v:=if_pos rfl
theorem jT{α β:Type}[DecidableEq α](f:α->β){x y:α}(v:β)(h:y≠x):gD f x v y=f y:=if_neg h
section
variable {w w':World} {bo K K' b:Nat} {F:iU} {o:Od} {c:Int->Int} {j k:Int}
theorem eu.mono{m:Nat}(h:eu w b n c)(A:n<=m):eu w b m c:=by
 obtain⟨D,C,B⟩:=h
 exact⟨D,C.mono A,B⟩
theorem eu.cl(h:eu w b n c):Ca 116 #[.map (some b)] w fun e w'=>e=.returned (.map (some w.heap.size))/\eu w' w.heap.size n c/\Bw w w'/\w'.heap.size=w.heap.size+1:=by
 obtain⟨E,D,C⟩:=h
 refine(D.cl KF).mono ?_
 rintro e w' ⟨rfl,B,A⟩
 exact⟨rfl,⟨E,B,C⟩,A⟩
theorem eu.inc{x:Int}(h:eu w b n c)(E:n<=1000000)(B:gu x)(v:Int)(C:gu v):∃w',(Instr.mapUpdate 244 (.map (some b)) (aB x) (aB v)).run Tryz.prog w=.ok () w'/\eu w' b (n+1) (gD c x v)/\w.mapTurned w' b:=by
 obtain⟨K,J,H⟩:=h
 obtain⟨w',D,G,F⟩:=J.put gh (t:=244) (e:=3) Tryz.underlying244 E x B v C
 refine⟨w',D,⟨_,G,fun y A=>?_⟩,F⟩
 unfold gD
 by_cases e:y=x
 ·simp[e]
 ·simp[e,H y A]
theorem ip.lt(h:ip w bo K F o){x:Int×Int}(A:F x=some b):b< w.heap.size:=by
 obtain⟨C,c,B⟩:=h.fd x b A
 exact(gl B)
theorem ip.ltO(h:ip w bo K F o):bo< w.heap.size:=by
 obtain⟨st,a,b,c,d,-,-,-,-,-,A⟩:=h.hd
 exact(aA A).lt
theorem ip.ne(h:ip w bo K F o){x:Int×Int}(B:F x=some b):b≠bo:=fun e=>by
 obtain⟨D,c,A⟩:=h.fd x b B
 obtain⟨st,a,b,c,d,-,-,-,-,-,C⟩:=h.hd
 rw[e,C]at A
 cases A
theorem ip.kept{S:Nat->Prop}(h:ip w bo K F o)(k:aC S w w')(L:¬S bo)(A:∀x b,F x=some b->¬S b):ip w' bo K F o:=by
 obtain⟨st,a,b,c,d,J,H,G,E,D,C⟩:=h.hd
 exact⟨⟨st,a,b,c,d,J,H,G,E,D,(k.block bo h.ltO L).trans C⟩,fun j b B e=>(h.rf j b B e).kept k (A _ _ e),fun j i b B e=>(h.ck j i b B e).kept k (A _ _ e),fun b e=>(h.tc b e).kept k (A _ _ e),fun b e=>(h.rc b e).kept k (A _ _ e),h.inj,fun x b e=>by rw[k.block b (h.lt e) (A _ _ e)];exact h.fd x b e,h.nn,h.z,h.dm,h.wk⟩
theorem ip.below(h:ip w bo K F o)(k:Bw w w'):ip w' bo K F o:=h.kept (aC.of_below (S:=fun _=>False) k) (fun h=>h) (fun _ _ _ h=>h)
theorem ip.mono(h:ip w bo K F o)(A:K<=K'):ip w bo K' F o:=by
 obtain⟨st,a,b,c,d,D,C⟩:=h.hd
 exact⟨⟨st,a,b,c,d,⟨D.1,by omega⟩,C⟩,fun j b B e=>(h.rf j b B e).mono A,fun j i b B e=>(h.ck j i b B e).mono A,fun b e=>(h.tc b e).mono A,h.rc,h.inj,h.fd,fun x y=>by have:=h.nn x y;omega,h.z,h.dm,h.wk⟩
theorem ip.step{st:Int}(h:ip w bo K F o)(J:0<=st)(H:st<=K):ip (w.setCell ⟨bo,0,none⟩ (.int .i64 st)) bo K F o:=by
 have k:aC (aK bo) w (w.setCell (Ad bo 0) (aB st)):=(aC.refl _ _).set1 0 _
 have n:∀x b,F x=some b->¬aK bo b:=fun x b e L=>h.ne e L
 obtain⟨M,a,b,c,d,-,G,E,D,C,B⟩:=h.hd
 exact⟨⟨st,a,b,c,d,⟨J,H⟩,G,E,D,C,heap_setCell B _ _⟩,fun j b A e=>(h.rf j b A e).kept k (n _ _ e),fun j i b A e=>(h.ck j i b A e).kept k (n _ _ e),fun b e=>(h.tc b e).kept k (n _ _ e),fun b e=>(h.rc b e).kept k (n _ _ e),h.inj,fun x b e=>by rw[k.block b (h.lt e) (n _ _ e)];exact h.fd x b e,h.nn,h.z,h.dm,h.wk⟩
theorem eu.map(h:eu w b n c):∃A c,w.heap[b]?=some (.map A c):=by
 obtain⟨C,⟨D,⟨A,c,B,_⟩,_⟩,_⟩:=h
 exact⟨A,c,B⟩
theorem ip.one(h:ip w bo K F o)(X:j=0\/j=1)(C:F (j,k)=some b)(B:aC (aK b) w w')(G:eu w' b K' c)(E:K<=K')(J:∀y,0<=c y/\c y<=K'):ip w' bo K' F {o with ck:=gD o.ck (j,k) c}:=by
 obtain⟨st,W,V,T,S,Q,P,O,N,M,L⟩:=h.hd
 have n:∀x A,F x=some A->x≠(j,k)->¬aK b A:=fun x A e H R=>H (h.inj _ _ A e ((show A=b from R)▸C))
 refine⟨⟨st,W,V,T,S,⟨Q.1,by omega⟩,P,O,N,M,(B.block bo h.ltO (fun e=>h.ne C (show bo=b from e).symm)).trans L⟩,fun i A D e=>((h.rf i A D e).mono E).kept B (n _ _ e (fun q=>?_)),fun i m A D e=>?_,fun A e=>((h.tc A e).mono E).kept B (n _ _ e (fun q=>?_)),fun A e=>(h.rc A e).kept B (n _ _ e (fun q=>?_)),h.inj,fun x A e=>?_,fun x y=>?_,fun m e x=>?_,h.dm,h.wk⟩
 ·cases q;omega
 ·show eu w' A K' (gD o.ck (j,k) c (i,m))
  by_cases q:(i,m)=(j,k)
  ·rw[q,pj];rw[q,C]at e;cases e;exact G
  ·rw[jT _ _ q];exact((h.ck i m A D e).mono E).kept B (n _ _ e q)
 ·cases q;omega
 ·cases q;omega
 ·by_cases q:x=(j,k)
  ·rw[q,C]at e;cases e;exact G.map
  ·rw[B.block A (h.lt e) (n _ _ e q)];exact h.fd x A e
 ·show 0<=gD o.ck (j,k) c x y/\gD o.ck (j,k) c x y<=K'
  unfold gD
  split
  ·exact J y
  ·have:=h.nn x y;omega
 ·show gD o.ck (j,k) c (1,m) x=0
  rw[jT _ _ (fun q=>by rw[q,C]at e;cases e)]
  exact h.z m e x
theorem ip.new{nt:Nat}(h:ip w bo K F o)(u:j=0\/j=1)(J:F (2,j)=some a)(S:gu k)(G:aC (aK a) w w')(Q:w.heap.size<=d)(L:bI lU w' a (K+1) (fun y=>if y=k then some d else F (j,y)))(O:eu w' d (K+1) c)(R:∀y,0<=c y/\c y<=K)(T:∀i:Int,(gD F (j,k) (some d) (0,i)).isSome=decide (0<=i/\i< nt)):ip w' bo (K+1) (gD F (j,k) (some d)) {o with ck:=gD o.ck (j,k) c,nt:=nt}:=by
 obtain⟨st,t,s,p,l,N,Z,Y,X,W,V⟩:=h.hd
 have g:∀i m,i≠j->gD F (j,k) (some d) (i,m)=F (i,m):=fun i m H=>jT _ _ (fun q=>H (congrArg Prod.fst q))
 have E:∀m,gD F (j,k) (some d) (2,m)=F (2,m):=fun m=>g 2 m (by omega)
 have n:∀x A,F x=some A->x≠(2,j)->¬aK a A:=fun x A e P C=>P (h.inj _ _ A e ((show A=a from C)▸J))
 have M:K<=K+1:=by omega
 refine⟨⟨st,t,s,p,l,⟨N.1,by omega⟩,by rw[E];exact Z,by rw[E];exact Y,by rw[E];exact X,by rw[E];exact W,(G.block bo h.ltO (fun e=>h.ne J (show bo=a from e).symm)).trans V⟩,fun i A H e=>?_,fun i m A H e=>?_,fun A e=>?_,fun A e=>?_,fun x y A e C=>?_,fun x A e=>?_,fun x y=>?_,fun m e x=>?_,T,fun x b e=>?_⟩
 ·rw[E]at e
  by_cases q:i=j
  ·subst q
   rw[J]at e
   cases e
   have:(fun y=>if y=k then some d else F (i,y))=fun y=>gD F (i,k) (some d) (i,y):=by funext y;unfold gD;simp
   rw[this]at L
   exact L
  ·have:(fun y=>gD F (j,k) (some d) (i,y))=fun y=>F (i,y):=by funext y;exact g i y q
   rw[this]
   exact((h.rf i A H e).mono M).kept G (n _ _ e (fun r=>q (congrArg Prod.snd r)))
 ·show eu w' A (K+1) (gD o.ck (j,k) c (i,m))
  by_cases q:(i,m)=(j,k)
  ·rw[q,pj]at e⊢;cases e;exact O
  ·rw[jT _ _ q]at e⊢;exact((h.ck i m A H e).mono M).kept G (n _ _ e (fun r=>by cases r;omega))
 ·rw[E]at e;exact((h.tc A e).mono M).kept G (n _ _ e (fun r=>by cases r;omega))
 ·rw[E]at e;exact(h.rc A e).kept G (n _ _ e (fun r=>by cases r;omega))
 ·by_cases q:x=(j,k)
  ·by_cases B:y=(j,k)
   ·rw[q,B]
   ·rw[q,pj]at e;rw[jT _ _ B]at C;cases e;have:=h.lt C;omega
  ·rw[jT _ _ q]at e
   by_cases B:y=(j,k)
   ·rw[B,pj]at C;cases C;have:=h.lt e;omega
   ·rw[jT _ _ B]at C;exact h.inj _ _ _ e C
 ·by_cases q:x=(j,k)
  ·rw[q,pj]at e;cases e;exact O.map
  ·rw[jT _ _ q]at e
   by_cases B:x=(2,j)
   ·rw[B,J]at e;cases e;obtain⟨D,⟨f,c,N,_⟩,_⟩:=L;exact⟨f,c,N⟩
   ·rw[G.block A (h.lt e) (n _ _ e B)];exact h.fd x A e
 ·show 0<=gD o.ck (j,k) c x y/\gD o.ck (j,k) c x y<=((K+1:Nat):Int)
  unfold gD
  split
  ·have:=R y;omega
  ·have:=h.nn x y;omega
 ·show gD o.ck (j,k) c (1,m) x=0
  by_cases q:((1,m):Int×Int)=(j,k)
  ·rw[q,pj]at e;cases e
  ·rw[jT _ _ q]at e⊢;exact h.z m e x
 ·unfold gD at e
  split at e
  ·rename_i q;rw[q];exact S
  ·exact h.wk x b e
theorem ip.tch{t:Tk->Option Int}(h:ip w bo K F o)(C:F (2,2)=some a)(B:aC (aK a) w w')(H:bI iD w' a (K+1) t):ip w' bo (K+1) F {o with tc:=t}:=by
 obtain⟨st,X,W,V,T,G,Q,P,O,N,M⟩:=h.hd
 have n:∀x A,F x=some A->x≠(2,2)->¬aK a A:=fun x A e L S=>L (h.inj _ _ A e ((show A=a from S)▸C))
 have J:K<=K+1:=by omega
 refine⟨⟨st,X,W,V,T,⟨G.1,by omega⟩,Q,P,O,N,(B.block bo h.ltO (fun e=>h.ne C (show bo=a from e).symm)).trans M⟩,fun i A E e=>((h.rf i A E e).mono J).kept B (n _ _ e (fun q=>by cases q;omega)),fun i m A E e=>((h.ck i m A E e).mono J).kept B (n _ _ e (fun q=>by cases q;omega)),fun A e=>?_,fun A e=>(h.rc A e).kept B (n _ _ e (fun q=>by cases q)),h.inj,fun x A e=>?_,fun x y=>by have:=h.nn x y;simp only;omega,h.z,h.dm,h.wk⟩
 ·rw[C]at e;cases e;exact H
 ·by_cases q:x=(2,2)
  ·rw[q,C]at e;cases e;obtain⟨D,⟨R,c,G,_⟩,_⟩:=H;exact⟨R,c,G⟩
  ·rw[B.block A (h.lt e) (n _ _ e q)];exact h.fd x A e
end
end
section
theorem EE(w:World)(A:Nat):Calls Tryz.prog 117 #[.map (some A),.map none] w (Rt w (.tuple #[])):=by
 have B:=run_range_nilMap (P:=Tryz.prog) w 244 3 3 Tryz.underlying244
 have C:∀ty,(Instr.next (Pt w.heap.size 0) false ty).run Tryz.prog (w.alloc (.mapIter none 0 #[] 0))=_:=fun ty=>run_next_nilMap _ ty 0 0 #[]
 go_in
 go_wp2
 refine wp_loop_rounds 1 ?_
 rw[rounds_succ]
 go_wp2
 go_end0
 exact⟨rfl,ba _ _⟩
theorem AL{x:Int}(A:0<=x)(B:x< 1000000):gu x:=by
 obtain⟨n,rfl⟩:=Int.eq_ofNat_of_zero_le A
 exact ud (by omega)
def hU(o:Od)(t:Int):Int->Int:=gD (o.ck (0,t)) t (o.ck (0,t) t+1)
def lT(o:Od)(e:Tu):Od:=
 let c:=hU o e.th
 let p:={o with ck:=gD o.ck (0,e.th) c}
 if e.kd=7 then{p with ck:=gD p.ck (0,e.ob) c,nt:=o.nt+1}
 else if e.kd=8 then{p with ck:=gD p.ck (0,e.th) (fun x=>max (c x) (o.ck (0,e.ob) x))}
 else if e.kd=9 then{p with ck:=gD p.ck (0,e.th) (fun x=>max (c x) (o.ck (1,e.fd) x))}
 else if e.kd=10 then{p with ck:=gD p.ck (1,e.fd) c}
 else if e.kd=2\/e.kd=3\/e.kd=4\/e.kd=5 then{p with tc:=fun y=>if y=wB e then some (c e.th)else o.tc y}
 else p
structure Dm(o:Od)(e:Tu):Prop where
 th:0<=e.th/\e.th< o.nt
 w1:gu e.th
 w2:gu e.ob
 w3:gu e.fd
 k7:e.kd=7->e.ob=o.nt
 k8:e.kd=8->0<=e.ob/\e.ob< o.nt/\e.ob≠e.th
 kT:e.kd=2\/e.kd=3\/e.kd=4\/e.kd=5->AW (wB e)/\∀y a,AW y->o.tc y=some a->FY (wB e) y=true->a<=hU o e.th y.th
def nX(K:Nat)(e:Tu):Nat:=if e.kd=8\/e.kd=9 then 2*K+4 else K+3
def iM(bo:Nat)(F:iU)(i:Nat):Prop:=i=bo\/∃x,F x=some i
def nC(w w':World)(bo K:Nat)(F:iU)(o:Od)(e:Tu):Prop:=∃F',ip w' bo (nX K e) F' (lT o e)/\aC (iM bo F) w w'/\∀x b,F' x=some b->F x=some b\/w.heap.size<=b
section
variable {w:World} {bo K:Nat} {F:iU} {o:Od} {e:Tu}
theorem yS{w':World}{A:Array Value}{t:TypeId}{S:Nat->Prop}(h:w.heap[b]?=some (.cells A t (0,0)))(k:aC S w w')(B:¬S b):w'.heap[b]?=some (.cells A t (0,0)):=(k.block b (aA h).lt B).trans h
theorem yE{Y:World}{nt:Nat}{c:Int->Int}{j k:Int}(h:ip Y bo (K+1+1) F o)(D:aC (iM bo F) w Y)(J:j=0\/j=1)(B:F (2,j)=some a)(E:Bw Y V)(H:gu k)(R:eu V Y.heap.size (K+1+1) c)(O:∀y,0<=c y/\c y<=((K+1:Nat):Int))(T:K<=440000)(Q:∀i:Int,(gD F (j,k) (some Y.heap.size) (0,i)).isSome=decide (0<=i/\i< nt)):
  ∃A,(Instr.mapUpdate 245 (.map (some a)) (aB k) (.map (some Y.heap.size))).run Tryz.prog V=.ok () A/\aC (aK a) Y A/\∃L,ip A bo (K+3) L {o with ck:=gD o.ck (j,k) c,nt:=nt}/\aC (iM bo F) w A/\∀x b,L x=some b->F x=some b\/w.heap.size<=b:=by
 have S:=h.below E
 obtain⟨A,N,P,M⟩:=(S.rf j a J B).put iP (t:=245) (e:=244) Tryz.underlying245 (by omega) k H Y.heap.size trivial
 have G:=aC.of_turned M
 have C:aC (aK a) Y A:=(aC.of_below E).trans G
 refine⟨A,N,C,_,h.new J B H C (Nat.le_refl _) P ((R.mono (by omega)).kept G (fun q=>?_)) (fun y=>by have:=O y;omega) Q,D.trans' C (fun i q=>.inl (.inr ⟨_,(show i=a from q)▸B⟩)),fun x b q=>?_⟩
 ·have q:Y.heap.size=a:=q
  have:=h.lt B
  omega
 ·unfold gD at q
  split at q
  ·cases q;exact .inr D.size
  ·exact .inl q
theorem rF{Y:World}{c E:Int->Int}{t:Int}(h:ip Y bo (K+1+1) F {o with ck:=gD o.ck (0,t) c})(N:aC (iM bo F) w Y)(D:F (0,t)=some a)(A:Bw Y V)(P:eu Y d (K+1+1) E)(B:a≠d)(Q:K<=440000)(H:∀y,0<=c y/\c y<=((K+1:Nat):Int))(C:∀y,E y<=((K+1:Nat):Int)):
  Ca 117 #[.map (some a),.map (some d)] V fun r w'=>r=.returned (.tuple #[])/\∃M,ip w' bo (2*K+4) M {o with ck:=gD (gD o.ck (0,t) c) (0,t) (fun x=>max (c x) (E x))}/\aC (iM bo F) w w'/\∀x b,M x=some b->F x=some b\/w.heap.size<=b:=by
 have L:=h.below A
 have J:eu V a (K+1+1) (gD o.ck (0,t) c (0,t)):=L.ck 0 t a (.inl rfl) D
 rw[pj]at J
 refine(Hz J (P.kept (aC.of_below (S:=fun _=>False) A) (fun h=>h)) B (by omega) (fun x=>(H x).1)).mono ?_
 rintro r w' ⟨rfl,O,G⟩
 refine⟨rfl,F,L.one (.inl rfl) D G (O.mono (by omega)) (by omega) (fun y=>?_),(N.trans (aC.of_below A)).trans (G.mono (fun i q=>.inr ⟨_,(show i=a from q)▸D⟩)),fun x b q=>.inl q⟩
 have:=H y
 have:=C y
 omega
theorem LJ(h:ip w bo K F o)(hK:K<=440000)(H:Dm o e):
  Calls Tryz.prog 79 #[aF bo,Jk e] w fun r w'=>r=.returned (.tuple #[])/\nC w w' bo K F o e:=by
 obtain⟨E,G⟩:∃E,F (0,e.th)=some E:=Option.isSome_iff_exists.1 (by rw[h.dm];simpa using H.th)
 obtain⟨st,a,b,c,d,ab,f0,f1,f2,f3,hd⟩:=h.hd
 have c0:w.cell? (Ad bo 0)=some (aB st):=(aA hd).cell 0
 have z0:w.frozen? (Ad bo 0)=false:=(aA hd).fz 0
 have ag:=h.ltO
 obtain⟨W,hW⟩:=bM (w.setCell (Ad bo 0) (aB (st+1)))
 have kW:aC (aK bo) w W:=by rw[hW];exact(aC.refl _ _).set1 0 _
 have a4:W.heap.size=w.heap.size:=by rw[hW];simp
 obtain⟨X,hX⟩:=bM (W.alloc (.cells #[aB e.th,aB e.kd,aB e.pl,aB e.ob,aB e.fd,vI e.vl,.bool e.en] 84))
 have kX:Bw W X:=by rw[hX];exact ba _ _
 have M:X.heap[w.heap.size]?=some (.cells #[aB e.th,aB e.kd,aB e.pl,aB e.ob,aB e.fd,vI e.vl,.bool e.en] 84 (0,0)):=by rw[hX,<-a4];exact heap_alloc_new _ _
 have m:ip X bo (K+1) F o:=by
  refine ip.below ?_ kX
  rw[hW]
  exact(h.mono (K':=K+1) (by omega)).step (by omega) (by omega)
 have g:X.heap[bo]?=some (.cells #[aB (st+1),.map (some a),.map (some b),.map (some c),.map (some d)] 248 (0,0)):=(kX.block bo (by omega)).trans (by rw[hW];exact heap_setCell hd 0 _)
 obtain⟨D,hD⟩:=bM X.drew
 have kD:Bw X D:=by rw[hD];exact(Below.refl _ _).drew
 have a1:=m.below kD
 have Q:=(kD.block _ (aA M).lt).trans M
 have a0:=a1.ck 0 _ E (.inl rfl) G
 have ad:=h.nn (0,e.th) e.th
 obtain⟨Y,aa,hY,P⟩:=a0.inc (by omega) H.w1 (o.ck (0,e.th) e.th+1) (AL (by omega) (by omega))
 have a8:=(a0.look H.w1).1
 have kY:=aC.of_turned P
 have u:∀y,0<=hU o e.th y/\hU o e.th y<=((K+1:Nat):Int):=fun y=>by
  unfold hU gD
  have:=h.nn (0,e.th) y
  split<;>omega
 have af:=h.lt G
 have a5:=(a1.mono (K':=K+1+1) (by omega)).one (.inl rfl) G kY hY (by omega) (fun y=>by have:=u y;unfold hU at this;omega)
 have C:=yS Q kY (fun q=>by have q:w.heap.size=E:=q;omega)
 have f:=yS ((kD.block _ (aA g).lt).trans g) kY (fun q=>h.ne G (show bo=E from q).symm)
 have d1:X.cell? (Ad bo 1)=some (.map (some a)):=(aA g).cell 1
 have e0:X.cell? (Ad w.heap.size 0)=some (aB e.th):=(aA M).cell 0
 have ah:D.cell? (Ad w.heap.size 0)=some (aB e.th):=(aA Q).cell 0
 have ae:(Instr.lookup 245 (.map (some a)) (aB e.th) false).run Tryz.prog X.drew=.ok (.map (some E)) X.drew:=by
  have:=((m.rf 0 a (.inl rfl) f0).below (Below.refl _ X).drew (m.lt f0)).look iP (t:=245) (e:=244) Tryz.underlying245 (z:=.map none) (by kernel_rfl) e.th H.w1
  rw[G]at this
  exact this
 have y0:Y.cell? (Ad w.heap.size 0)=some (aB e.th):=(aA C).cell 0
 have y1:Y.cell? (Ad w.heap.size 1)=some (aB e.kd):=(aA C).cell 1
 have y2:Y.cell? (Ad w.heap.size 2)=some (aB e.pl):=(aA C).cell 2
 have y3:Y.cell? (Ad w.heap.size 3)=some (aB e.ob):=(aA C).cell 3
 have y4:Y.cell? (Ad w.heap.size 4)=some (aB e.fd):=(aA C).cell 4
 have y5:Y.cell? (Ad w.heap.size 5)=some (vI e.vl):=(aA C).cell 5
 have y6:Y.cell? (Ad w.heap.size 6)=some (.bool e.en):=(aA C).cell 6
 have g1:Y.cell? (Ad bo 1)=some (.map (some a)):=(aA f).cell 1
 have g2:Y.cell? (Ad bo 2)=some (.map (some b)):=(aA f).cell 2
 have g3:Y.cell? (Ad bo 3)=some (.map (some c)):=(aA f).cell 3
 have R:aC (iM bo F) w Y:=(((kW.mono (fun i q=>.inl q)).below kX).below kD).trans (kY.mono (fun i q=>.inr ⟨_,(show i=E from q)▸G⟩))
 have A:ip Y bo (K+1+1) F {o with ck:=gD o.ck (0,e.th) (hU o e.th)}:=a5
 have l:eu Y E (K+1+1) (hU o e.th):=hY
 have HC:=aG ((l.kept (aC.of_below (S:=fun _=>False) (Below.refl _ Y).drew) (fun h=>h)).cl)
 have H7:Hid ((e.kd==7)=true->∀V,Bw Y V->eu V Y.heap.size (K+1+1) (hU o e.th)->∃p,(Instr.mapUpdate 245 (.map (some a)) (aB e.ob) (.map (some Y.heap.size))).run Tryz.prog V=.ok () p/\aC (aK a) Y p/\nC w p bo K F o e):=fun B V N J=>by
  have B:e.kd=7:=by simpa using B
  have:=yE A R (j:=0) (k:=e.ob) (nt:=o.nt+1) (.inl rfl) f0 N H.w2 J u hK (fun i=>by
   unfold gD
   have:=h.dm i
   have k7:=H.k7 B
   by_cases q:i=e.ob
   ·rw[if_pos (by rw[q])];exact(decide_eq_true (by omega)).symm
   ·rw[if_neg (fun r=>q (congrArg Prod.snd r)),this];exact decide_eq_decide.2 (by omega))
  unfold nC lT nX
  simp only[B]
  exact this
 have a9:Hid ((e.kd==10)=true->∀V,Bw Y V->eu V Y.heap.size (K+1+1) (hU o e.th)->∃p,(Instr.mapUpdate 245 (.map (some b)) (aB e.fd) (.map (some Y.heap.size))).run Tryz.prog V=.ok () p/\aC (aK b) Y p/\nC w p bo K F o e):=fun B V N J=>by
  have B:e.kd=10:=by simpa using B
  have:=yE A R (j:=1) (k:=e.fd) (nt:=o.nt) (.inr rfl) f1 N H.w3 J u hK (fun i=>by
   rw[jT _ _ (fun r=>by cases r)]
   exact h.dm i)
  unfold nC lT nX
  simp only[B]
  exact this
 have H8:Hid ((e.kd==8)=true->∃O,(Instr.lookup 245 (.map (some a)) (aB e.ob) false).run Tryz.prog Y.drew=.ok (.map (some O)) Y.drew/\Ca 117 #[.map (some E),.map (some O)] Y.drew fun r w'=>r=.returned (.tuple #[])/\nC w w' bo K F o e):=fun B=>by
  have B:e.kd=8:=by simpa using B
  obtain⟨T,k2,k3⟩:=H.k8 B
  obtain⟨O,L⟩:∃O,F (0,e.ob)=some O:=Option.isSome_iff_exists.1 (by rw[h.dm];simpa using⟨T,k2⟩)
  have l1:=((A.rf 0 a (.inl rfl) f0).below (Below.refl _ Y).drew (A.lt f0)).look iP (t:=245) (e:=244) Tryz.underlying245 (z:=.map none) (by kernel_rfl) e.ob H.w2
  rw[L]at l1
  have h2:eu Y O (K+1+1) (gD o.ck (0,e.th) (hU o e.th) (0,e.ob)):=A.ck 0 e.ob O (.inl rfl) L
  rw[jT _ _ (fun r=>k3 (congrArg Prod.snd r))]at h2
  refine⟨O,l1,?_⟩
  have:=rF A R G (Below.refl _ Y).drew h2 (fun q=>k3 (congrArg Prod.snd (h.inj _ _ _ L (q▸G)))) hK u (fun y=>by have:=h.nn (0,e.ob) y;omega)
  unfold nC lT nX
  simp only[B]
  exact this
 have H9:Hid ((e.kd==9)=true->∃v,(Instr.lookup 245 (.map (some b)) (aB e.fd) false).run Tryz.prog Y.drew=.ok v Y.drew/\Ca 117 #[.map (some E),v] Y.drew fun r w'=>r=.returned (.tuple #[])/\nC w w' bo K F o e):=fun B=>by
  have B:e.kd=9:=by simpa using B
  have l1:=((A.rf 1 b (.inr rfl) f1).below (Below.refl _ Y).drew (A.lt f1)).look iP (t:=245) (e:=244) Tryz.underlying245 (z:=.map none) (by kernel_rfl) e.fd H.w3
  refine⟨_,l1,?_⟩
  unfold nC lT nX
  simp only[B]
  cases L:F (1,e.fd)with
  |none=>
   refine(EE _ E).mono ?_
   rintro r w' ⟨rfl,T⟩
   have T:Bw Y w':=(Below.refl _ Y).drew.trans T
   have hz:(fun x=>max (hU o e.th x) (o.ck (1,e.fd) x))=hU o e.th:=by
    funext x
    rw[h.z _ L]
    exact Int.max_eq_left (u x).1
   refine⟨rfl,F,?_,R.trans (aC.of_below T),fun x b q=>.inl q⟩
   have h3:=(A.below T).mono (K':=2*K+4) (by omega)
   have h4:=h3.one (c:=hU o e.th) (.inl rfl) G (aC.refl _ _) ((l.kept (aC.of_below (S:=fun _=>False) T) (fun h=>h)).mono (by omega)) (Nat.le_refl _) (fun y=>by have:=u y;omega)
   simp only at h4⊢
   rw[hz]
   exact h4
  |some O=>
   have h2:eu Y O (K+1+1) (gD o.ck (0,e.th) (hU o e.th) (1,e.fd)):=A.ck 1 e.fd O (.inr rfl) L
   rw[jT _ _ (fun r=>by cases r)]at h2
   exact rF A R G (Below.refl _ Y).drew h2 (fun q=>by have:=h.inj _ _ _ L (q▸G);cases this) hK u (fun y=>by have:=h.nn (1,e.fd) y;omega)
 have HA:Hid (e.kd=2\/e.kd=3\/e.kd=4\/e.kd=5->Ca 118 #[aF bo,Jk e,.map (some E)] Y fun r w'=>r=.returned (.tuple #[])/\nC w w' bo K F o e):=fun B=>by
  obtain⟨T,k2⟩:=H.kT B
  refine(EF (n:=K+1+1) g3 (A.tc _ f2) l (by omega) k2 T).mono ?_
  rintro r w' ⟨rfl,h3,k3⟩
  refine⟨rfl,?_⟩
  unfold nC lT nX
  rw[if_neg (by omega),if_neg (by omega),if_neg (by omega),if_neg (by omega),if_pos B,if_neg (by omega)]
  exact⟨F,A.tch f2 k3 h3,R.trans (k3.mono (fun i q=>.inr ⟨_,(show i=c from q)▸f2⟩)),fun x b q=>.inl q⟩
 have HB:Hid ((e.kd==7)=false->(e.kd==8)=false->(e.kd==9)=false->(e.kd==10)=false->¬(e.kd=2\/e.kd=3\/e.kd=4\/e.kd=5)->nC w Y bo K F o e):=fun k7 k8 k9 a3 kt=>by
  simp only[beq_eq_false_iff_ne]at k7 k8 k9 a3
  unfold nC lT nX
  rw[if_neg k7,if_neg k8,if_neg k9,if_neg a3,if_neg kt,if_neg (by omega)]
  exact⟨F,A.mono (by omega),R,fun x b q=>.inl q⟩
 have na:bo≠a/\w.heap.size≠a:=⟨(h.ne f0).symm,by have:=h.lt f0;omega⟩
 have a2:bo≠b/\w.heap.size≠b:=⟨(h.ne f1).symm,by have:=h.lt f1;omega⟩
 obtain⟨a7,a6⟩:=aN na a2
 clear na a2
 obtain⟨HW,HX,HD⟩:=bY hW hX hD
 have ac:w.heap.size<=Y.heap.size:=R.size
 unfold Jk at HA⊢
 clear A l hW hX hD m g a4 a0 a5 kW kX kY hY a1 Q M C f kD P R u hd
 go_in
 go_wp2_with fail
 rw[<-HW.out,<-HX.out]
 go_region
 rw[<-HD.out]
 go_wp2_with fail
 ·rename_i B
  go_region_held3 (fun Z=>Z.cell? (Ad bo 1)=some (.map (some a))/\Z.cell? (Ad w.heap.size 3)=some (aB e.ob)) (first|with_reducible exact⟨g1,y3⟩|with_reducible exact⟨p1,p2⟩|with_reducible exact⟨q1,q2⟩|go_keep) (first|(go_at_call 116;refine HC.mono ?_;rintro q V ⟨rfl,J,hb,-⟩;have N:Bw Y V:=(Below.refl _ Y).drew.trans hb;have p1:=bc N g1;have p2:=bc N y3;obtain⟨p,hr,kp,hp⟩:=H7 B V N J;have q1:=kc kp g1 a7.1;have q2:=kc kp y3 a7.2;have s:=aG hp;clear J hb hp N kp))
  all_goals go_wp2_with fail
  all_goals go_end0
  all_goals exact⟨rfl,s⟩
 ·rename_i B
  obtain⟨O,hl,J⟩:=H8 B
  have HL:=aG J
  clear J
  go_region_with (go_at_call 117;refine HL.mono ?_;rintro q w' ⟨rfl,hp⟩;have s:=aG hp;clear hp)
  all_goals go_wp2_with fail
  all_goals go_end0
  all_goals exact⟨rfl,s⟩
 ·rename_i B
  obtain⟨v,hl,J⟩:=H9 B
  have HL:=aG J
  clear J
  go_region_with (go_at_call 117;refine HL.mono ?_;rintro q w' ⟨rfl,hp⟩;have s:=aG hp;clear hp)
  all_goals go_wp2_with fail
  all_goals go_end0
  all_goals exact⟨rfl,s⟩
 ·rename_i B
  go_region_held3 (fun Z=>Z.cell? (Ad bo 2)=some (.map (some b))/\Z.cell? (Ad w.heap.size 4)=some (aB e.fd)) (first|with_reducible exact⟨g2,y4⟩|with_reducible exact⟨p1,p2⟩|with_reducible exact⟨q1,q2⟩|go_keep) (first|(go_at_call 116;refine HC.mono ?_;rintro q V ⟨rfl,J,hb,-⟩;have N:Bw Y V:=(Below.refl _ Y).drew.trans hb;have p1:=bc N g2;have p2:=bc N y4;obtain⟨p,hr,kp,hp⟩:=a9 B V N J;have q1:=kc kp g2 a6.1;have q2:=kc kp y4 a6.2;have s:=aG hp;clear J hb hp N kp))
  all_goals go_wp2_with fail
  all_goals go_end0
  all_goals exact⟨rfl,s⟩
 iterate 4
  ·refine(HA (by simp_all)).mono ?_
   rintro q w' ⟨rfl,hp⟩
   have s:=aG hp
   clear hp
   go_wp2_with fail
   go_end0
   exact⟨rfl,s⟩
 ·go_end0
  exact⟨rfl,HB ‹_› ‹_› ‹_› ‹_› (by simp_all)⟩
end
end
def F0(n:Nat):iU:=fun x=>if x=(2,0)then some n else if x=(0,0)then some (n+1)else if x=(2,1)then some (n+2)else if x=(2,2)then some (n+3)else if x=(2,3)then some (n+4)else none
def Du:Od:=⟨fun _ _=>0,fun _=>none,1⟩
theorem bI.alloc{κ α:Type}{T:Mt κ α}{f:κ->Option α}(h:bI T w b n f)(A:Obj):bI T (w.alloc A) b n f:=h.below (ba _ _) h.lt
theorem bI.map{κ α:Type}{T:Mt κ α}{f:κ->Option α}(h:bI T w b n f):∃A c,w.heap[b]?=some (.map A c):=by
 obtain⟨D,⟨A,c,B,_⟩,_⟩:=h
 exact⟨A,c,B⟩
theorem bI.congr{κ α:Type}{T:Mt κ α}{f g:κ->Option α}(h:bI T w b n f)(e:∀x,f x=g x):bI T w b n g:=by
 rw[<-funext e];exact h
theorem qE{x:Int×Int}(h:F0 n x=some b):(x=(2,0)/\b=n)\/(x=(0,0)/\b=n+1)\/(x=(2,1)/\b=n+2)\/(x=(2,2)/\b=n+3)\/(x=(2,3)/\b=n+4):=by
 unfold F0 at h
 (repeat' split at h)<;>simp_all
theorem oc{w':World}(h:w.mapTurned w' b):w'.heap.size=w.heap.size:=by
 obtain⟨C,c,A,D,B,rfl⟩:=h
 exact Array.size_setIfInBounds
theorem LK(w:World):Calls Tryz.prog 70 #[] w fun r w'=>r=.returned (aF (w.heap.size+5))/\ip w' (w.heap.size+5) 1 (F0 w.heap.size) Du/\Bw w w':=by
 have T:=@run_makeMap Tryz.prog
 have Q:=(bI.made lU w).alloc (.map #[] 0)
 have R:((w.alloc (.map #[] 0)).alloc (.map #[] 0)).heap.size=w.heap.size+1+1:=by simp
 obtain⟨X,N,P,J⟩:=Q.put iP (t:=245) (e:=244) Tryz.underlying245 (by omega) 0 (ud (n:=0) (by decide)) (w.heap.size+1) trivial
 have N:(Instr.mapUpdate 245 (.map (some w.heap.size)) (aB 0) (.map (some (w.heap.size+1)))).run Tryz.prog ((w.alloc (.map #[] 0)).alloc (.map #[] 0))=.ok () X:=N
 have H:=aC.of_turned J
 have A:X.heap.size=w.heap.size+1+1:=by rw[<-R];exact oc J
 have O:eu X (w.heap.size+1) 1 (fun _=>0):=⟨fun _=>none,((bI.made km (w.alloc (.map #[] 0))).mono (by omega)).kept H (fun q=>by have q:(w.alloc (.map #[] 0)).heap.size=w.heap.size:=q;simp at q) |> fun h=>by simpa using h,fun _ _=>rfl⟩
 obtain⟨Z,B⟩:=bM ((((X.alloc (.map #[] 0)).alloc (.map #[] 0)).alloc (.map #[] 0)).alloc (.cells #[aB 0,.map (some w.heap.size),.map (some (w.heap.size+2)),.map (some (w.heap.size+3)),.map (some (w.heap.size+4))] 248))
 have C:Bw X Z:=by rw[B];exact((((Below.refl _ _).alloc (by simp) _).alloc (by simp) _).alloc (by simp;omega) _).alloc (by simp;omega) _
 have F:bI lU Z (w.heap.size+2) 0 (fun _=>none):=by
  have:=(((bI.made lU X).alloc (.map #[] 0)).alloc (.map #[] 0)).alloc (.cells #[aB 0,.map (some w.heap.size),.map (some (w.heap.size+2)),.map (some (w.heap.size+3)),.map (some (w.heap.size+4))] 248)
  rw[<-B,A]at this
  exact this
 have E:bI iD Z (w.heap.size+3) 0 (fun _=>none):=by
  have:=((bI.made iD (X.alloc (.map #[] 0))).alloc (.map #[] 0)).alloc (.cells #[aB 0,.map (some w.heap.size),.map (some (w.heap.size+2)),.map (some (w.heap.size+3)),.map (some (w.heap.size+4))] 248)
  rw[<-B,World.size_alloc,A]at this
  exact this
 have D:bI kL Z (w.heap.size+4) 0 (fun _=>none):=by
  have:=(bI.made kL ((X.alloc (.map #[] 0)).alloc (.map #[] 0))).alloc (.cells #[aB 0,.map (some w.heap.size),.map (some (w.heap.size+2)),.map (some (w.heap.size+3)),.map (some (w.heap.size+4))] 248)
  rw[<-B,World.size_alloc,World.size_alloc,A]at this
  exact this
 have M:Z.heap[w.heap.size+5]?=some (.cells #[aB 0,.map (some w.heap.size),.map (some (w.heap.size+2)),.map (some (w.heap.size+3)),.map (some (w.heap.size+4))] 248 (0,0)):=by
  have:=heap_alloc_new (((X.alloc (.map #[] 0)).alloc (.map #[] 0)).alloc (.map #[] 0)) (.cells #[aB 0,.map (some w.heap.size),.map (some (w.heap.size+2)),.map (some (w.heap.size+3)),.map (some (w.heap.size+4))] 248)
  rw[<-B]at this
  simpa[A]using this
 have m0:=P.below C (by omega)
 have G:=O.kept (aC.of_below (S:=fun _=>False) C) (fun h=>h)
 have Y:Hid (ip Z (w.heap.size+5) 1 (F0 w.heap.size) Du/\Bw w Z):=by
  refine⟨⟨⟨0,_,_,_,_,by omega,rfl,rfl,rfl,rfl,M⟩,fun j b K e=>?_,fun j k b K e=>?_,fun b e=>?_,fun b e=>?_,fun x y b e V=>?_,fun x b e=>?_,fun x y=>by simp[Du],fun k e x=>rfl,fun k=>?_,fun x b e=>?_⟩,?_⟩
  ·rcases K with rfl|rfl
   ·cases e
    refine bI.congr m0 (fun y=>?_)
    by_cases q:y=0<;>simp[F0,q]
   ·cases e
    exact bI.congr (F.mono (by omega)) (fun y=>by simp[F0])
  ·have:j=0/\k=0/\b=w.heap.size+1:=by
    unfold F0 at e
    rcases K with rfl|rfl<;>simp at e
    exact⟨rfl,e.1,e.2.symm⟩
   obtain⟨rfl,rfl,rfl⟩:=this
   exact G
  ·cases e;exact E.mono (by omega)
  ·cases e;exact D
  ·rcases qE e with⟨rfl,rfl⟩|⟨rfl,rfl⟩|⟨rfl,rfl⟩|⟨rfl,rfl⟩|⟨rfl,rfl⟩<;>rcases qE V with⟨rfl,h⟩|⟨rfl,h⟩|⟨rfl,h⟩|⟨rfl,h⟩|⟨rfl,h⟩<;>first|rfl|omega
  ·rcases qE e with⟨rfl,rfl⟩|⟨rfl,rfl⟩|⟨rfl,rfl⟩|⟨rfl,rfl⟩|⟨rfl,rfl⟩
   ·exact m0.map
   ·exact G.map
   ·exact F.map
   ·exact E.map
   ·exact D.map
  ·by_cases q:k=0
   ·rw[q];rfl
   ·have W:F0 w.heap.size (0,k)=none:=by simp[F0,q]
    rw[W]
    exact(decide_eq_false (fun h=>q (by have:=h.2;simp[Du]at this;omega))).symm
  ·rcases qE e with⟨rfl,rfl⟩|⟨rfl,rfl⟩|⟨rfl,rfl⟩|⟨rfl,rfl⟩|⟨rfl,rfl⟩<;>decide
  ·exact aC.to_below (((aC.of_below (S:=fun _=>False) ((ba w (.map #[] 0)).alloc (by simp) (.map #[] 0))).trans' H (fun i q=>.inr (by have q:i=w.heap.size:=q;omega))).below C)
 have L:=aG B
 clear B H P Q J O C m0 G F E D M
 go_in
 go_wp2_with fail
 have L:Hid (Z=(((X.alloc (.map #[] 0)).alloc (.map #[] 0)).alloc (.map #[] 0)).alloc (.cells #[aB 0,.map (some w.heap.size),.map (some (w.heap.size+1+1)),.map (some (w.heap.size+1+1+1)),.map (some (w.heap.size+1+1+1+1))] 248)):=L
 rw[<-L.out]
 go_ret
 exact⟨rfl,Y⟩
theorem yM{G:Int->Option Nat}{f:Int->Int->Int}(hM:bI lU w a K G)(hc:∀k b,G k=some b->eu w b K (f k))(hw:∀k b,G k=some b->gu k)(hK:K<=1000000):
  Calls Tryz.prog 110 #[.map (some a)] w fun r w'=>r=.returned (.map (some w.heap.size))/\∃G',bI lU w' w.heap.size K G'/\(∀k,(G' k).isSome=(G k).isSome)/\(∀k b,G' k=some b->w.heap.size< b/\eu w' b K (f k))/\(∀k l b,G' k=some b->G' l=some b->k=l)/\Bw w w':=by
 have ai:=@run_makeMap Tryz.prog
 obtain⟨HC,HW⟩:=aN hc hw
 have a6:=hM.lt
 obtain⟨D,J,p,o⟩:=hM
 obtain⟨a1,af⟩:=aN p o
 obtain⟨A,s⟩:=bM (w.alloc (.map #[] 0))
 have kA:Bw w A:=by rw[s];exact ba _ _
 have ac:A.heap.size=w.heap.size+1:=by rw[s];simp
 have hl:bI lU A w.heap.size 0 (fun _=>none):=by rw[s];exact bI.made lU w
 have Y:A.ownsMap Tryz.prog 3 xa a K D:=by
  obtain⟨es,c,E,M⟩:=J
  exact⟨es,c,(kA.block a a6).trans E,M⟩
 have a3:=J.size_le
 obtain⟨HL,HA,ad⟩:=bY hl s kA
 clear hc hw p o J s kA hl
 go_in
 go_wp2_with (first|(at_range;rw[<-HA.out];refine wpList_range_own _ rfl _ 245 rfl 3 244 iP.kd Tryz.underlying245 _ a K D rfl Y ?_;intro w0 P a8 a5)|go_in)
 rw[ac]at P a5⊢
 go_frame
 go_loopw [9] (fun _ wr=>∃(left:Lit->Bool) (cnt:Nat) (F:Int->Option Nat),wr.ranges Tryz.prog 3 xa a (w.heap.size+1) K D left cnt/\cnt<=K/\w.heap.size+1< wr.heap.size/\Hid (bI lU wr w.heap.size (K-cnt) F)/\Hid (∀x,(gu x->(F x).isSome=(has D (.int .i64 x)&&!left (.int .i64 x)))/\(¬gu x->F x=none))/\Hid (∀x b,F x=some b->w.heap.size+1< b/\eu wr b K (f x))/\Hid (∀x y b,F x=some b->F y=some b->x=y)/\Hid (Bw w wr)) (fun _ wr=>wr.rangeLeft a (w.heap.size+1))
 case atStart=>
  have kg:=ef (S:=fun _=>False) a8 (fun k e=>by cases e)
  refine⟨_,_,fun _=>none,P,a3,by omega,?_,fun x=>⟨fun _=>by simp,fun _=>rfl⟩,fun x b e=>(by cases e),fun x y b e=>(by cases e),?_⟩
  ·exact(HL.kept kg (fun h=>h)).mono (by omega)
  ·exact ad.trans ((aC.to_below kg).mono (by omega))
 case round=>
  obtain⟨left,cnt,F,W,al,ag,HM,HF,HX,HJ,HB⟩:=hrel
  go_wp2_with (first
   |(at_next;refine wpList_next_ranges _ rfl _ rfl 3 iP.kd xa (Value.int .i64) (fun(b:Nat)=>Value.map (some b)) (fun a2 kl h=>by obtain⟨x,_,E,_⟩:=sL.all a2 kl h;exact⟨x,E⟩) (fun v y h=>by obtain⟨x,_,E,_⟩:=sL.alle v y h;exact⟨x,E⟩) a (w.heap.size+1) K _ _ _ rfl W ?_ ?_)
   |go_in)
  ·intro am a7
   go_wp2_with fail
   go_ret
   refine⟨rfl,F,HM.mono (by omega),fun k=>?_,fun k b e=>?_,HJ,HB⟩
   ·by_cases q:gu k
    ·rw[(HF.out k).1 q,a7]
     have:has D (.int .i64 k)=(G k).isSome:=a1 k q
     rw[this];simp
    ·rw[(HF.out k).2 q]
     cases e:G k with
     |none=>rfl
     |some b=>exact absurd (HW k b e) q
   ·have:=HX k b e
    exact⟨by omega,this.2⟩
  ·intro x c kl yd yp C L Q aj hv Z O j m g ak
   obtain⟨x',hx,u,rfl⟩:=sL.all _ _ Q
   have e1:x=x':=by cases u;rfl
   subst e1
   clear u Q
   have hh:has D (.int .i64 x)=true:=Maps.has_true_of_atKey Z
   have hG:G x=some c:=by
    have E:has D (.int .i64 x)=(G x).isSome:=a1 x hx
    rw[hh]at E
    cases hg:G x with
    |none=>rw[hg]at E;cases E
    |some a'=>
     have M:=(af x a' hx hg).2 (.agg [])
     have h3:=Z (.agg [])
     have hv:some ((DataW.lit (H:=Unit) (.int .i64 c)),([]:List MemPlace))=some (yd,yp):=hv
     cases hv
     have h4:DataW.lit (H:=Unit) (.int .i64 a')=.lit (.int .i64 c):=M.symm.trans h3
     cases h4
     rfl
   have k1:aC (aK (w.heap.size+1)) wr C:=ef m (fun k e=>(Option.some.inj e).symm)
   have b1:Bw w C:=aC.to_below ((aC.of_below (S:=fun _=>False) HB).trans' k1 (fun i e=>.inr (by have e:i=w.heap.size+1:=e;omega)))
   have n:eu C c K (f x):=(HC x c hG).kept (aC.of_below (S:=fun _=>False) b1) (fun h=>h)
   have ab:=aG n.cl
   have HN:Hid (∀V,eu V C.heap.size K (f x)->Bw C V->V.heap.size=C.heap.size+1->∃X,(Instr.mapUpdate 245 (.map (some w.heap.size)) (.int .i64 x) (.map (some C.heap.size))).run Tryz.prog V=.ok () X/\∃B,X.ranges Tryz.prog 3 xa a (w.heap.size+1) K D (fun z=>left z&&!z.sameKey (.int .i64 x)) L/\w.heap.size+1< X.heap.size/\bI lU X w.heap.size (K-L) B/\(∀z,(gu z->(B z).isSome=(has D (.int .i64 z)&&!(left (.int .i64 z)&&!(Lit.int .i64 z).sameKey (.int .i64 x))))/\(¬gu z->B z=none))/\(∀z b,B z=some b->w.heap.size+1< b/\eu X b K (f z))/\(∀z y b,B z=some b->B y=some b->z=y)/\Bw w X):=fun V hV N ao=>by
    have ah:C.heap.size=wr.heap.size:=g
    have aa:=(HM.kept k1 (fun e=>by have e:w.heap.size=w.heap.size+1:=e;omega)).below N (by omega)
    obtain⟨X,hr,a9,ht⟩:=aa.put iP (t:=245) (e:=244) Tryz.underlying245 (by omega) x hx C.heap.size trivial
    have kX:=aC.of_turned ht
    have kg:C.grownBy V none:=⟨N.os,N.tape,N.output,N.size,fun k hk _=>N.block k hk⟩
    have an:=oc ht
    refine⟨X,hr,_,(O.kept kg (by simp) (by simp)).kept ht.grown (fun e=>by have:=Option.some.inj e;omega) (fun e=>by have:=Option.some.inj e;omega),by omega,a9.mono (by omega),fun z=>⟨fun hz=>?_,fun hz=>?_⟩,fun z b e=>?_,fun z y b e R=>?_,?_⟩
    ·show(if z=x then some C.heap.size else F z).isSome=_
     by_cases q:z=x
     ·subst q
      rw[if_pos rfl,hh]
      simp[Lit.sameKey]
     ·rw[if_neg q,(HF.out z).1 hz]
      have a4:(Lit.int .i64 z).sameKey (.int .i64 x)=false:=by simp[Lit.sameKey,q]
      rw[a4]
      simp
    ·show(if z=x then some C.heap.size else F z)=none
     rw[if_neg (fun(q:z=x)=>hz (by rw[q];exact hx)),(HF.out z).2 hz]
    ·have e:(if z=x then some C.heap.size else F z)=some b:=e
     by_cases q:z=x
     ·rw[if_pos q]at e
      cases e
      rw[q]
      exact⟨by omega,hV.kept kX (fun q=>by have q:C.heap.size=w.heap.size:=q;omega)⟩
     ·rw[if_neg q]at e
      obtain⟨E,M⟩:=HX z b e
      have hb:=M.lt
      exact⟨E,((M.kept k1 (fun q=>by have q:b=w.heap.size+1:=q;omega)).kept (aC.of_below (S:=fun _=>False) N) (fun h=>h)).kept kX (fun q=>by have q:b=w.heap.size:=q;omega)⟩
    ·have e:(if z=x then some C.heap.size else F z)=some b:=e
     have R:(if y=x then some C.heap.size else F y)=some b:=R
     by_cases q:z=x
     ·by_cases d:y=x
      ·rw[q,d]
      ·rw[if_pos q]at e;rw[if_neg d]at R;cases e
       have:=(HX y _ R).2.lt;omega
     ·rw[if_neg q]at e
      by_cases d:y=x
      ·rw[if_pos d]at R;cases R
       have:=(HX z _ e).2.lt;omega
      ·rw[if_neg d]at R;exact HJ _ _ _ e R
    ·exact aC.to_below ((aC.of_below (S:=fun _=>False) (b1.trans (N.mono b1.size))).trans' kX (fun i e=>.inr (by have e:i=w.heap.size:=e;omega)))
   obtain⟨a0,ae⟩:=aN j W
   clear O m Z hv b1 k1 n j W HM HF HX HJ HB g
   go_wp2_with fail
   refine ab.mono ?_
   rintro r V ⟨rfl,E,M,h3⟩
   obtain⟨X,hr,B,hq⟩:=HN V E M h3
   have T:=aG hq
   clear E M h3 hq
   go_wp2_with fail
   go_roundw
   case rel=>exact⟨_,L,B,T.1,(by have:=a0.out;omega),T.2.1,T.2.2.1,T.2.2.2.1,T.2.2.2.2.1,T.2.2.2.2.2.1,T.2.2.2.2.2.2⟩
   case measure=>rw[T.out.1.left_eq,ae.out.left_eq];exact a0
section
section
variable {w:World} {bo K:Nat} {F:iU} {o:Od}
theorem Hy(h:ip w bo K F o):Calls Tryz.prog 119 #[aF bo] w fun r w'=>r=.returned (.map (some w.heap.size))/\bI kL w' w.heap.size 0 (fun _=>none)/\Bw w w':=by
 obtain⟨st,a,b,c,d,D,N,M,L,G,A⟩:=h.hd
 have O:Ce w bo 4 (.map (some d)):=(aA A).cell 4
 have J:=aG ((h.rc d G).cl Gr)
 clear h A
 go_in
 go_wp2_with fail
 refine J.mono ?_
 rintro r V ⟨rfl,C,B,E⟩
 have H:=aG (And.intro C B)
 clear C B E
 go_wp2_with fail
 go_ret
 exact⟨rfl,H⟩
def KT(G0 G1:Int->Option Nat)(a b c d:Nat):iU:=fun x=>if x.1=0 then G0 x.2 else if x.1=1 then G1 x.2 else if x=(2,0)then some a else if x=(2,1)then some b else if x=(2,2)then some c else if x=(2,3)then some d else none
theorem nk{C B:Int->Option Nat}{c:Nat}{x:Int×Int}(h:KT C B a b c d x=some n):(∃k,x=(0,k)/\C k=some n)\/(∃k,x=(1,k)/\B k=some n)\/(x=(2,0)/\a=n)\/(x=(2,1)/\b=n)\/(x=(2,2)/\c=n)\/(x=(2,3)/\d=n):=by
 obtain⟨D,A⟩:=x
 unfold KT at h
 simp only at h
 split at h
 ·rename_i q;exact .inl ⟨A,by rw[q],h⟩
 ·split at h
  ·rename_i q;exact .inr (.inl ⟨A,by rw[q],h⟩)
  ·(repeat' split at h)<;>simp_all
theorem Fv{W Z:World}{st:Int}{D C:Int->Option Nat}(h:ip w bo K F o)(N:0<=st/\st<=K)(r:Z=V.alloc (.cells #[aB st,.map (some w.heap.size),.map (some v.heap.size),.map (some u.heap.size),.map (some W.heap.size)] 248))
  (M:bI lU v w.heap.size K D) (p:∀k,(D k).isSome=(F (0,k)).isSome) (G:∀k b,D k=some b->w.heap.size< b/\eu v b K (o.ck (0,k))) (j1:∀k l b,D k=some b->D l=some b->k=l) (m:Bw w v)
  (L:bI lU u v.heap.size K C) (n:∀k,(C k).isSome=(F (1,k)).isSome) (E:∀k b,C k=some b->v.heap.size< b/\eu u b K (o.ck (1,k))) (j2:∀k l b,C k=some b->C l=some b->k=l) (i:Bw v u)
  (J:bI iD W u.heap.size K o.tc) (g:Bw u W) (H:bI kL V W.heap.size 0 (fun _=>none)) (f:Bw W V):
  ip Z V.heap.size K (KT D C w.heap.size v.heap.size u.heap.size W.heap.size) o/\(∀x b,KT D C w.heap.size v.heap.size u.heap.size W.heap.size x=some b->w.heap.size<=b)/\Bw w Z:=by
 have d:Bw V Z:=by rw[r];exact ba _ _
 have hz:Z.heap[V.heap.size]?=some (.cells #[aB st,.map (some w.heap.size),.map (some v.heap.size),.map (some u.heap.size),.map (some W.heap.size)] 248 (0,0)):=by rw[r];exact heap_alloc_new _ _
 have s1:=m.size
 have s2:=i.size
 have s3:=g.size
 have t:=f.size
 have s:Bw W Z:=f.trans (d.mono t)
 have Q:Bw u Z:=g.trans (s.mono s3)
 have R:Bw v Z:=i.trans (Q.mono s2)
 have a:=M.below R M.lt
 have Y:=L.below Q L.lt
 have X:=J.below s J.lt
 have T:=H.below d H.lt
 have l1:=M.lt
 have l2:=L.lt
 have l3:=J.lt
 have l4:=H.lt
 have r1:∀k b,D k=some b->w.heap.size< b/\b< v.heap.size/\eu Z b K (o.ck (0,k)):=fun k b e=>⟨(G k b e).1,(G k b e).2.lt,(G k b e).2.kept (aC.of_below (S:=fun _=>False) R) (fun h=>h)⟩
 have r2:∀k b,C k=some b->v.heap.size< b/\b< u.heap.size/\eu Z b K (o.ck (1,k)):=fun k b e=>⟨(E k b e).1,(E k b e).2.lt,(E k b e).2.kept (aC.of_below (S:=fun _=>False) Q) (fun h=>h)⟩
 refine⟨⟨⟨st,_,_,_,_,N,rfl,rfl,rfl,rfl,hz⟩,fun j b O e=>?_,fun j k b O e=>?_,fun b e=>?_,fun b e=>?_,fun x y b e e2=>?_,fun x b e=>?_,h.nn,fun k e=>?_,fun k=>?_,fun x b e=>?_⟩,fun x b e=>?_,m.trans (R.mono s1)⟩
 ·rcases O with rfl|rfl
  ·cases e;exact a
  ·cases e;exact Y
 ·rcases O with rfl|rfl
  ·exact(r1 k b e).2.2
  ·exact(r2 k b e).2.2
 ·cases e;exact X
 ·cases e;exact T
 ·rcases nk e with⟨k,rfl,A⟩|⟨k,rfl,A⟩|⟨rfl,A⟩|⟨rfl,A⟩|⟨rfl,A⟩|⟨rfl,A⟩<;>rcases nk e2 with⟨l,rfl,B⟩|⟨l,rfl,B⟩|⟨rfl,B⟩|⟨rfl,B⟩|⟨rfl,B⟩|⟨rfl,B⟩<;>first|rfl|(rw[j1 _ _ _ A B])|(rw[j2 _ _ _ A B])|(exfalso;first|omega|(have:=r1 _ _ A;have:=r2 _ _ B;omega)|(have:=r2 _ _ A;have:=r1 _ _ B;omega)|(have:=r1 _ _ A;omega)|(have:=r2 _ _ A;omega)|(have:=r1 _ _ B;omega)|(have:=r2 _ _ B;omega))
 ·rcases nk e with⟨k,rfl,A⟩|⟨k,rfl,A⟩|⟨rfl,rfl⟩|⟨rfl,rfl⟩|⟨rfl,rfl⟩|⟨rfl,rfl⟩
  ·exact(r1 k b A).2.2.map
  ·exact(r2 k b A).2.2.map
  ·exact a.map
  ·exact Y.map
  ·exact X.map
  ·exact T.map
 ·have e:C k=none:=e
  refine h.z k ?_
  have:=n k
  rw[e]at this
  cases q:F (1,k)with
  |none=>rfl
  |some b=>rw[q]at this;cases this
 ·exact(p k).trans (h.dm k)
 ·rcases nk e with⟨k,rfl,A⟩|⟨k,rfl,A⟩|⟨rfl,rfl⟩|⟨rfl,rfl⟩|⟨rfl,rfl⟩|⟨rfl,rfl⟩
  ·have:=p k
   rw[A]at this
   obtain⟨c,P⟩:=Option.isSome_iff_exists.1 this.symm
   exact h.wk (0,k) c P
  ·have:=n k
   rw[A]at this
   obtain⟨c,P⟩:=Option.isSome_iff_exists.1 this.symm
   exact h.wk (1,k) c P
  all_goals decide
 ·rcases nk e with⟨k,rfl,A⟩|⟨k,rfl,A⟩|⟨rfl,rfl⟩|⟨rfl,rfl⟩|⟨rfl,rfl⟩|⟨rfl,rfl⟩
  all_goals(first|omega|(have:=r1 _ _ A;omega)|(have:=r2 _ _ A;omega))
theorem Ka(h:ip w bo K F o)(hK:K<=1000000):Calls Tryz.prog 76 #[aF bo] w fun r w'=>∃b' F',r=.returned (aF b')/\w.heap.size<=b'/\ip w' b' K F' o/\(∀x b,F' x=some b->w.heap.size<=b)/\Bw w w':=by
 obtain⟨st,a,b,c,d,hst,f0,f1,f2,f3,hd⟩:=h.hd
 have c0:w.cell? (Ad bo 0)=some (aB st):=(aA hd).cell 0
 have c1:w.cell? (Ad bo 1)=some (.map (some a)):=(aA hd).cell 1
 have c2:w.cell? (Ad bo 2)=some (.map (some b)):=(aA hd).cell 2
 have c3:w.cell? (Ad bo 3)=some (.map (some c)):=(aA hd).cell 3
 have c4:w.cell? (Ad bo 4)=some (.map (some d)):=(aA hd).cell 4
 have HS:Hid (∀V,Bw w V->V.cell? (Ad bo 0)=some (aB st)/\V.cell? (Ad bo 1)=some (.map (some a))/\V.cell? (Ad bo 2)=some (.map (some b))/\V.cell? (Ad bo 3)=some (.map (some c))/\V.cell? (Ad bo 4)=some (.map (some d))):=fun V k=>by
  have hd':=(k.block bo h.ltO).trans hd
  exact⟨(aA hd').cell 0,(aA hd').cell 1,(aA hd').cell 2,(aA hd').cell 3,(aA hd').cell 4⟩
 have HA:=aG (yM (w:=w.drew) (((h.below (Below.refl _ w).drew).rf 0 a (Or.inl rfl) f0)) (fun k x e=>(h.below (Below.refl _ w).drew).ck 0 k x (Or.inl rfl) e) (fun k x e=>h.wk (0,k) x e) hK)
 have HB:Hid (∀V,Bw w V->_):=fun V k=>yM (w:=V) ((h.below k).rf 1 b (Or.inr rfl) f1) (fun i x e=>(h.below k).ck 1 i x (Or.inr rfl) e) (fun i x e=>h.wk (1,i) x e) hK
 have HC:Hid (∀V,Bw w V->_):=fun V k=>((h.below k).tc c f2).cl KB
 have HD:Hid (∀V,Bw w V->_):=fun V k=>((h.below k).rc d f3).cl Gr
 have HH:=aG h
 have HT:=aG hst
 clear h hd hst
 go_in
 go_wp2_with fail
 go_region_held3 (fun Z=>Z.cell? (Ad bo 0)=some (aB st)/\Z.cell? (Ad bo 1)=some (.map (some a))/\Z.cell? (Ad bo 2)=some (.map (some b))/\Z.cell? (Ad bo 3)=some (.map (some c))/\Z.cell? (Ad bo 4)=some (.map (some d))) (first|with_reducible exact⟨c0,c1,c2,c3,c4⟩|with_reducible exact S1.out|with_reducible exact S2.out|with_reducible exact S3.out|with_reducible exact S4.out|go_keep) (first
  |(go_at_call 110;refine(HB.out V1 H1.out.2.2.2.2).mono ?_;rintro q V2 ⟨rfl,G1,p2,i2,q2,j2,b2⟩;have S2:=aG (HS.out V2 (H1.out.2.2.2.2.trans (b2.mono H1.out.2.2.2.2.size)));have H2:=aG (And.intro p2 (And.intro i2 (And.intro q2 (And.intro j2 b2))));clear p2 i2 q2 j2 b2)
  |(go_at_call 110;refine HA.out.mono ?_;rintro q V1 ⟨rfl,G0,p1,i1,q1,j1,b1⟩;have k1:Bw w V1:=(Below.refl _ w).drew.trans b1;have S1:=aG (HS.out V1 k1);have H1:=aG (And.intro p1 (And.intro i1 (And.intro q1 (And.intro j1 k1))));clear p1 i1 q1 j1 b1 k1)
  |(go_at_call 111;refine(HC.out V2 (H1.out.2.2.2.2.trans (H2.out.2.2.2.2.mono H1.out.2.2.2.2.size))).mono ?_;rintro q V3 ⟨rfl,p3,b3,-⟩;have b13:=H2.out.2.2.2.2.trans (b3.mono H2.out.2.2.2.2.size);have S3:=aG (HS.out V3 (H1.out.2.2.2.2.trans (b13.mono H1.out.2.2.2.2.size)));have H3:=aG (And.intro p3 (And.intro b3 b13));clear p3 b3 b13)
  |(go_at_call 112;refine(HD.out V3 (H1.out.2.2.2.2.trans (H3.out.2.2.mono H1.out.2.2.2.2.size))).mono ?_;rintro q V4 ⟨rfl,p4,b4,-⟩;have b14:=H3.out.2.2.trans (b4.mono H3.out.2.2.size);have S4:=aG (HS.out V4 (H1.out.2.2.2.2.trans (b14.mono H1.out.2.2.2.2.size)));have H4:=aG (And.intro p4 b4);clear p4 b4 b14))
 all_goals go_wp2_with fail
 all_goals go_ret
 all_goals
  obtain⟨p1,i1,q1,j1,k1⟩:=H1.out
  obtain⟨p2,i2,q2,j2,k2⟩:=H2.out
  obtain⟨h1,h2,h3⟩:=Fv HH.out HT.out rfl p1 i1 q1 j1 k1 p2 i2 q2 j2 k2 H3.out.1 H3.out.2.1 H4.out.1 H4.out.2
  exact⟨_,_,rfl,by have:=k1.size;have:=k2.size;have:=H3.out.2.1.size;have:=H4.out.2.size;omega,h1,h2,h3⟩
end
end
structure Pg where
 mn:Nat:=0
 bg:List Int:=[]
 ss:List Fs:=[]
structure Tc where
 th:Nat
 pl:Int
 kd:Nat
 ob:Int
 fd:Nat
 n:Nat
structure Ms where
 thr:List (List Fm):=[]
 objs:Nat:=0
 hold:List ((Int×Nat)×Vl):=[]
 hldr:List (Nat×Nat):=[]
 clk:List (List Nat):=[]
 mtx:List (Nat×List Nat):=[]
 tch:List Tc:=[]
 cap:Nat:=0
def nJ{α:Type}:List (Nat×α)->Nat->Option α
 |[],_=>none
 |(j,x)::l,i=>bif Nat.beq i j then some x else nJ l i
def hg:List ((Int×Nat)×Vl)->Int->Nat->Vl
 |[],_,_=>(0,0)
 |((o,f),x)::l,i,k=>bif decide (i=o)&&Nat.beq f k then x else hg l i k
structure tX(w:World)(B bF:Nat)(y:Pg):Prop where
 lt:bF< B
 mn:w.cell? ⟨bF,1,none⟩=some (.int .i64 y.mn)
 ex:∃g c gs cs,g< B/\gs< B/\w.cell? ⟨bF,0,none⟩=some (.slice (some ⟨g,0,none⟩) y.bg.length c)/\(∀(i:Nat) p,y.bg[i]?=some p->w.cell? ⟨g,i,none⟩=some (.int .i64 p))/\w.cell? ⟨bF,3,none⟩=some (.slice (some ⟨gs,0,none⟩) y.ss.length cs)/\∀(j:Nat) s,y.ss[j]?=some s->∃bs,w.cell? ⟨gs,j*4,none⟩=some (aF bs)/\w.cell? ⟨gs,j*4+1,none⟩=some (.int .i64 s.fn)/\w.cell? ⟨gs,j*4+2,none⟩=some (.int .i64 s.nx)/\w.cell? ⟨gs,j*4+3,none⟩=some (.int .i64 s.ins)/\AG w B bs s.p s.r
theorem tX.kept{w':World}{y:Pg}{S:Nat->Prop}(h:tX w B a y)(k:aC S w w')(E:∀i,S i->B<=i):tX w' B a y:=by
 obtain⟨g,c,M,N,hg,A,R,P,Q,O⟩:=h.ex
 have C:=h.lt
 have n:∀b,b< B->¬S b:=fun b D e=>by have:=E b e;omega
 have K:∀(b o:Nat) v,b< B->Ce w b o v->Ce w' b o v:=fun b o v D e=>(k.cell (p:=Ad b o) (aD e) (n b D)).trans e
 refine⟨C,K _ _ _ C h.mn,g,c,M,N,hg,A,K _ _ _ C R,fun i p e=>K _ _ _ hg (P i p e),K _ _ _ C Q,fun j s e=>?_⟩
 obtain⟨T,L,J,H,G,F⟩:=O j s e
 exact⟨T,K _ _ _ A L,K _ _ _ A J,K _ _ _ A H,K _ _ _ A G,F.kept k E⟩
structure Ly where
 B:Nat
 bF:Nat
 bm:Nat
 ob:Nat
 hb:Nat
 lb:Nat
structure AH(w:World)(L:Ly)(K:Nat)(tv:Value)(bts:List Nat)(m:Ms):Prop where
 mc:w.heap[L.bm]?=some (.cells (uh L.bF tv m.objs L.hb L.lb L.ob) 193 (0,0))
 row:w.ownsRow L.B 194 1 tv bts.length (du bts)
 hd:∃hf,bI hQ w L.hb K hf/\∀(o:Int) (k:Nat),(hf (o,(k:Int))).getD (0,0)=hg m.hold o k
 hl:∃lf,bI km w L.lb K lf/\∀k:Nat,lf (k:Int)=(nJ m.hldr k).map (fun(n:Nat)=>(n:Int))
theorem AH.kept{w':World}{L:Ly}{tv:Value}{m:Ms}{S:Nat->Prop}(h:AH w L K tv l m)(k:aC S w w')(F:¬S L.bm)(E:¬S L.hb)(D:¬S L.lb)(C:∀i,aT tv i->¬S i):AH w' L K tv l m:=by
 obtain⟨B,M,J⟩:=h.hd
 obtain⟨A,H,G⟩:=h.hl
 exact⟨(k.block _ (aA h.mc).lt F).trans h.mc,ig h.row k C,⟨B,M.kept k E,J⟩,⟨A,H.kept k D,G⟩⟩
structure jx(w:World)(B:Nat)(bts:List Nat)(fvs:List Value)(thr:List (List Fm)):Prop where
 lf:fvs.length=bts.length
 lt:thr.length=bts.length
 at_:∀(i bt:Nat) fv t,bts[i]?=some bt->fvs[i]?=some fv->thr[i]?=some t->cN w B bt fv t
 nd:∀(i j b:Nat),bts[i]?=some b->bts[j]?=some b->i=j
 nr:∀(i j:Nat) fi fj b,fvs[i]?=some fi->fvs[j]?=some fj->aT fi b->aT fj b->i=j
 ge:∀b∈bts,B<=b
def Jm(w:World)(b:Nat):Prop:=w.heap.size<=b\/(∃es c,w.heap[b]?=some (.map es c))\/∃A ty z,w.heap[b]?=some (.cells A ty z)/\ty≠201/\ty≠197
theorem Jm.th{t:List Fm}(h:Jm w b)(C:cN w B b y t):False:=by
 rcases h with h|⟨E,c,h⟩|⟨A,ty,z,h,D,-⟩
 ·have:=(aA C.hd).lt;omega
 ·rw[C.hd]at h;cases h
 ·rw[C.hd]at h;simp at h;exact D h.2.1.symm
theorem dN{e size:Nat}{v:Value}{E:List Value}(h:w.ownsRow B e size v n E)(D:aT v b):B<=b/\b< w.heap.size/\∃A z,w.heap[b]?=some (.cells A e z):=by
 rcases h.2 with⟨C,_⟩|⟨H,cap,G,C,F,hg,_⟩
 ·subst C;cases D
 ·subst C;cases D;exact⟨F,(aA hg).lt,_,_,hg⟩
theorem Jm.row{bt:Nat}{t:List Fm}(h:Jm w b)(E:cN w B bt y t)(D:aT y b):False:=by
 obtain⟨-,H,K,G,C⟩:=dN E.row D
 rcases h with h|⟨J,c,h⟩|⟨A,ty,z,h,-,F⟩
 ·omega
 ·rw[C]at h;cases h
 ·rw[C]at h;simp at h;exact F h.2.1.symm
theorem cN.ap{bt:Nat}{t u:List Fm}(C:cN w B bt y t)(A:cN w B b z u):¬aT y b:=dE C.row A.hd (by decide)
theorem jx.turn{w':World}{i bt:Nat}{H:List Value}{thr:List (List Fm)}{O:List Fm}{S:Nat->Prop}(h:jx w B l H thr)(G:l[i]?=some bt)(F:H[i]?=some y)(k:aC S w w')(R:∀b,S b->b=bt\/aT y b\/Jm w b)(Z:cN w' B bt z O)(Q:∀b,aT z b->aT y b\/w.heap.size<=b):jx w' B l (H.set i z) (thr.set i O):=by
 have Y:=(List.getElem?_eq_some_iff.1 G).1
 have X:=h.lf
 have W:=h.lt
 obtain⟨t,V⟩:∃t,thr[i]?=some t:=⟨thr[i]'(by omega),List.getElem?_eq_getElem _⟩
 have M:=h.at_ i bt y t G F V
 have L:∀(j:Nat) K b,H[j]?=some K->aT K b->b< w.heap.size:=fun j K b C A=>by
  have f:=(List.getElem?_eq_some_iff.1 C).1
  exact(dN (h.at_ j (l[j]'(by omega)) K (thr[j]'(by omega)) (List.getElem?_eq_getElem _) C (List.getElem?_eq_getElem _)).row A).2.1
 refine⟨by simp[h.lf],by simp[h.lt],fun j d K T C A D=>?_,h.nd,fun a b m g c C A D J=>?_,h.ge⟩
 ·by_cases q:i=j
  ·subst q
   rw[G]at C
   rw[List.getElem?_set_self (by omega)]at A D
   cases C;cases A;cases D
   exact Z
  ·rw[List.getElem?_set_ne q]at A D
   have E:=h.at_ j d K T C A D
   refine E.kept k (fun e=>?_) (fun b e e'=>?_)
   ·rcases R _ e with e|e|e
    ·exact q (h.nd _ _ _ G (e▸C))
    ·exact M.ap E e
    ·exact e.th E
   ·rcases R _ e' with e'|e'|e'
    ·subst e';exact E.ap M e
    ·exact q (h.nr _ _ _ _ _ F A e' e)
    ·exact e'.row E e
 ·by_cases P:i=a
  ·by_cases N:i=b
   ·omega
   ·subst P
    rw[List.getElem?_set_self (by omega)]at C
    rw[List.getElem?_set_ne N]at A
    cases C
    rcases Q c D with D|D
    ·exact h.nr _ _ _ _ _ F A D J
    ·have:=L _ _ _ A J;omega
  ·rw[List.getElem?_set_ne P]at C
   by_cases N:i=b
   ·subst N
    rw[List.getElem?_set_self (by omega)]at A
    cases A
    rcases Q c J with J|J
    ·exact h.nr _ _ _ _ _ C F D J
    ·have:=L _ _ _ C D;omega
   ·rw[List.getElem?_set_ne N]at A
    exact h.nr _ _ _ _ _ C A D J
theorem jx.kept{w':World}{A:List Value}{thr:List (List Fm)}{S:Nat->Prop}(h:jx w B l A thr)(k:aC S w w')(G:∀b∈l,¬S b)(F:∀C∈A,∀b,aT C b->¬S b):jx w' B l A thr:=⟨h.lf,h.lt,fun i bt C t E D H=>(h.at_ i bt C t E D H).kept k (G _ (List.mem_of_getElem? E)) (F _ (List.mem_of_getElem? D)),h.nd,h.nr,h.ge⟩
theorem fe{α:Type}{l:List α}{x y:α}{i:Nat}(h:(l++[x])[i]?=some y):l[i]?=some y\/(i=l.length/\y=x):=by
 by_cases q:i< l.length
 ·rw[List.getElem?_append_left q]at h;exact .inl h
 ·rw[List.getElem?_append_right (by omega)]at h
  have:=(List.getElem?_eq_some_iff.1 h).1
  simp at this
  have e:i-l.length=0:=by omega
  rw[e]at h
  simp at h
  exact .inr ⟨by omega,h.symm⟩
theorem jx.add{N bt:Nat}{E:List Value}{thr:List (List Fm)}{t:List Fm}(h:jx w B l E thr)(Q:cN w B bt y t)(K:∀b∈l,b< N)(J:∀f∈E,∀b,aT f b->b< N)(X:N<=bt)(H:∀b,aT y b->N<=b)(W:B<=N):jx w B (l++[bt]) (E++[y]) (thr++[t]):=by
 have V:=h.lf
 have T:=h.lt
 refine⟨by simp[h.lf],by simp[h.lt],fun j Z R S C A D=>?_,fun i j b C A=>?_,fun i j Y R b C A D G=>?_,fun b F=>?_⟩
 ·rcases fe C with C|⟨r1,rfl⟩
  ·have:=(List.getElem?_eq_some_iff.1 C).1
   rcases fe A with A|⟨r2,_⟩
   ·rcases fe D with D|⟨r3,_⟩
    ·exact h.at_ _ _ _ _ C A D
    ·omega
   ·omega
  ·rcases fe A with A|⟨-,rfl⟩
   ·have:=(List.getElem?_eq_some_iff.1 A).1;omega
   ·rcases fe D with D|⟨-,rfl⟩
    ·have:=(List.getElem?_eq_some_iff.1 D).1;omega
    ·exact Q
 ·rcases fe C with C|⟨r1,rfl⟩<;>rcases fe A with A|⟨r2,q⟩
  ·exact h.nd _ _ _ C A
  ·have:=K _ (List.mem_of_getElem? C);omega
  ·have:=K _ (List.mem_of_getElem? A);omega
  ·omega
 ·rcases fe C with M|⟨r1,P⟩<;>rcases fe A with L|⟨r2,O⟩
  ·exact h.nr _ _ _ _ _ M L D G
  ·have:=J _ (List.mem_of_getElem? M) _ D;have:=H _ (O▸G);omega
  ·have:=J _ (List.mem_of_getElem? L) _ G;have:=H _ (P▸D);omega
  ·omega
 ·rcases List.mem_append.1 F with F|F
  ·exact h.ge b F
  ·have:=List.mem_singleton.1 F;omega
structure Mx(w:World)(y:Pg)(L:Ly)(K:Nat)(tv:Value)(bts:List Nat)(fvs:List Value)(m:Ms):Prop where
 pg:tX w L.B L.bF y
 rs:AH w L K tv bts m
 ts:jx w L.B bts fvs m.thr
 ne:L.hb≠L.lb
 ge:L.B<=L.bm/\L.B<=L.hb/\L.B<=L.lb/\L.B<=w.heap.size
def mV(L:Ly)(tv:Value)(bts:List Nat)(fvs:List Value)(b:Nat):Prop:=b=L.bm\/b=L.hb\/b=L.lb\/aT tv b\/b∈bts\/∃fv∈fvs,aT fv b
theorem Mx.blk{y:Pg}{L:Ly}{tv:Value}{C:List Value}{m:Ms}(h:Mx w y L K tv l C m)(A:mV L tv l C b):L.B<=b/\b< w.heap.size:=by
 obtain⟨H,G,F,R⟩:=h.ge
 obtain⟨Q,M,-⟩:=h.rs.hd
 obtain⟨N,J,-⟩:=h.rs.hl
 have P:=h.ts.lf
 have O:=h.ts.lt
 have T:∀i (D:i< l.length),cN w L.B l[i] (C[i]'(by omega)) (m.thr[i]'(by omega)):=fun i D=>h.ts.at_ i _ _ _ (List.getElem?_eq_getElem _) (List.getElem?_eq_getElem _) (List.getElem?_eq_getElem _)
 rcases A with rfl|rfl|rfl|A|A|⟨S,E,A⟩
 ·exact⟨H,(aA h.rs.mc).lt⟩
 ·exact⟨G,M.lt⟩
 ·exact⟨F,J.lt⟩
 ·have:=dN h.rs.row A;exact⟨this.1,this.2.1⟩
 ·obtain⟨i,D,rfl⟩:=List.getElem_of_mem A
  exact⟨h.ts.ge _ A,(aA (T i D).hd).lt⟩
 ·obtain⟨i,D,rfl⟩:=List.getElem_of_mem E
  have:=dN (T i (by omega)).row A
  exact⟨this.1,this.2.1⟩
theorem Mx.kept{w':World}{y:Pg}{L:Ly}{tv:Value}{C:List Value}{m:Ms}{S:Nat->Prop}(h:Mx w y L K tv l C m)(k:aC S w w')(A:∀b,S b->L.B<=b/\¬mV L tv l C b):Mx w' y L K tv l C m:=by
 obtain⟨J,H,G,N⟩:=h.ge
 exact⟨h.pg.kept k (fun i e=>(A i e).1),h.rs.kept k (fun e=>(A _ e).2 (.inl rfl)) (fun e=>(A _ e).2 (.inr (.inl rfl))) (fun e=>(A _ e).2 (.inr (.inr (.inl rfl)))) (fun i E e=>(A _ e).2 (.inr (.inr (.inr (.inl E))))),h.ts.kept k (fun b D e=>(A _ e).2 (.inr (.inr (.inr (.inr (.inl D)))))) (fun M F b D e=>(A _ e).2 (.inr (.inr (.inr (.inr (.inr ⟨M,F,D⟩)))))),h.ne,J,H,G,by have:=k.size;omega⟩
theorem Mx.below{w':World}{y:Pg}{L:Ly}{tv:Value}{A:List Value}{m:Ms}(h:Mx w y L K tv l A m)(k:Bw w w'):Mx w' y L K tv l A m:=h.kept (aC.of_below (S:=fun _=>False) k) (fun _ e=>e.elim)
section
def KS(L:Ly)(tv fv:Value)(bt bu b:Nat):Prop:=aT fv b\/b=bt\/b=bu\/b=L.hb\/b=L.lb\/b=L.bm\/aT tv b
def Dy(w1 w2:World)(L:Ly)(K' bu bt:Nat)(tv fv:Value)(bts:List Nat)(q:Value)(x1 x2 x3:Int)(e1:Tu)(t1:List Fm)(nw:Option (List Fm))(m':Ms):Prop:=
 ∃fv' tv' bts1 fvs1,w2.heap[bu]?=some (.cells (lQ L.bm bt q x1 x2 x3 e1) 267 (0,0))/\cN w2 L.B bt fv' t1/\aC (KS L tv fv bt bu) w1 w2/\(∀b,aT fv' b->aT fv b\/w1.heap.size<=b)/\(∀b,aT tv' b->aT tv b\/w1.heap.size<=b)/\AH w2 L K' tv' (bts++bts1) m'/\match nw with
  |none=>bts1=[]/\fvs1=[]
  |some t2=>∃bt2 fv2,bts1=[bt2]/\fvs1=[fv2]/\cN w2 L.B bt2 fv2 t2/\w1.heap.size<=bt2/\(∀b,aT fv2 b->w1.heap.size<=b)/\∀b,aT fv' b->aT fv b
section
variable {w:World} {y:Pg} {L:Ly} {K K' i j:Nat} {tv:Value} {bts:List Nat} {fvs:List Value} {m m':Ms} {s:Fs} {t t1:List Fm} {e1:Tu} {nw:Option (List Fm)}
theorem Mx.thr(h:Mx w y L K tv bts fvs m)(A:m.thr[i]?=some t):∃bt E,bts[i]?=some bt/\fvs[i]?=some E/\cN w L.B bt E t:=by
 have G:=h.ts.lf
 have F:=h.ts.lt
 have:=(List.getElem?_eq_some_iff.1 A).1
 have D:bts[i]?=some (bts[i]'(by omega)):=List.getElem?_eq_getElem _
 have C:fvs[i]?=some (fvs[i]'(by omega)):=List.getElem?_eq_getElem _
 exact⟨_,_,D,C,h.ts.at_ i _ _ t D C A⟩
theorem Mx.fgn(h:Mx w y L K tv bts fvs m){bt:Nat}{F q:Value}{J H G:Int}{e:Tu}(M:w.heap[a]?=some (.cells (lQ L.bm bt q J H G e) 267 (0,0)))(B:KS L tv F bt a b):b=bt\/aT F b\/Jm w b:=by
 obtain⟨Q,O,-⟩:=h.rs.hd
 obtain⟨P,N,-⟩:=h.rs.hl
 rcases B with B|B|B|B|B|B|B
 ·exact .inr (.inl B)
 ·exact .inl B
 ·subst B;exact .inr (.inr (.inr (.inr ⟨_,_,_,M,by decide,by decide⟩)))
 ·subst B;obtain⟨D,⟨E,c,C,_⟩,_⟩:=O;exact .inr (.inr (.inr (.inl ⟨E,c,C⟩)))
 ·subst B;obtain⟨D,⟨E,c,C,_⟩,_⟩:=N;exact .inr (.inr (.inr (.inl ⟨E,c,C⟩)))
 ·subst B;exact .inr (.inr (.inr (.inr ⟨_,_,_,h.rs.mc,by decide,by decide⟩)))
 ·obtain⟨-,-,A,z,C⟩:=dN h.rs.row B
  exact .inr (.inr (.inr (.inr ⟨_,_,_,C,by decide,by decide⟩)))
theorem Mx.did{w':World}{c bt:Nat}{q:Value}{l k j:Int}{e:Tu}(h:Mx w y L K tv bts fvs m)(Q:bts[i]?=some bt)(H:fvs[i]?=some z)(V:Bw w v)(a1:w.heap.size< c)(r:v.heap[c]?=some (.cells (lQ L.bm bt q l k j e) 267 (0,0)))(hD:Dy v u L K' c bt tv z bts q l k j e1 t1 nw m')(s:m'.thr=m.thr.set i t1++nw.toList)(M:aC (fun i=>i=w.heap.size\/i=c) u w'):
  ∃F D C,Mx w' y L K' F D C m'/\aC (mV L tv bts fvs) w w':=by
 obtain⟨R,F,S,x,p1,p2,T,p,p5,p6,o⟩:=hD
 have d:=h.below V
 obtain⟨g1,g2,g3,g4⟩:=h.ge
 have s1:=V.size
 have a0:=(aA r).lt
 have G:∀b,mV L tv bts fvs b->L.B<=b/\b< w.heap.size:=fun b A=>h.blk A
 have O:∀b,KS L tv z bt c b->L.B<=b/\(mV L tv bts fvs b\/b=c):=fun b A=>by
  have:mV L tv bts fvs b\/b=c:=by
   rcases A with A|A|A|A|A|A|A
   ·exact .inl (.inr (.inr (.inr (.inr (.inr ⟨z,List.mem_of_getElem? H,A⟩)))))
   ·exact .inl (.inr (.inr (.inr (.inr (.inl (A▸List.mem_of_getElem? Q))))))
   ·exact .inr A
   ·exact .inl (.inr (.inl A))
   ·exact .inl (.inr (.inr (.inl A)))
   ·exact .inl (.inl A)
   ·exact .inl (.inr (.inr (.inr (.inl A))))
  refine⟨?_,this⟩
  rcases this with q|q
  ·exact(G b q).1
  ·omega
 have t:=d.ts.turn Q H T (fun b A=>d.fgn r A) p2 p
 have Y:=d.pg.kept T (fun b A=>(O b A).1)
 have Z:aC (mV L tv bts fvs) w w':=((aC.of_below V).trans' T (fun b A=>by rcases(O b A).2 with q|q;exact .inl q;exact .inr (by omega))).trans' M (fun b A=>.inr (by omega))
 have P:∀f∈fvs.set i R,∀b,aT f b->b< w.heap.size\/v.heap.size<=b:=fun f E b A=>by
  rcases List.mem_or_eq_of_mem_set E with E|rfl
  ·exact .inl (G b (.inr (.inr (.inr (.inr (.inr ⟨f,E,A⟩)))))).2
  ·rcases p b A with q|q
   ·exact .inl (G b (.inr (.inr (.inr (.inr (.inr ⟨z,List.mem_of_getElem? H,q⟩)))))).2
   ·exact .inr q
 have J:∀b∈bts,b< w.heap.size:=fun b A=>(G b (.inr (.inr (.inr (.inr (.inl A)))))).2
 have l1:=(G _ (.inl rfl)).2
 have l2:=(G _ (.inr (.inl rfl))).2
 have l3:=(G _ (.inr (.inr (.inl rfl)))).2
 have W:∀b,aT F b->b< w.heap.size\/v.heap.size<=b:=fun b A=>by
  rcases p5 b A with q|q
  ·exact .inl (G b (.inr (.inr (.inr (.inl q))))).2
  ·exact .inr q
 have X:=p6.kept M (fun e=>by omega) (fun e=>by omega) (fun e=>by omega) (fun b A e=>by have:=W b A;omega)
 have s2:=T.size
 have s3:=M.size
 have fin:∀D C,D=bts++S->(jx u L.B D C m'.thr)->(∀b∈D,b< w.heap.size\/v.heap.size<=b)->(∀f∈C,∀b,aT f b->b< w.heap.size\/v.heap.size<=b)->∃F D C,Mx w' y L K' F D C m'/\aC (mV L tv bts fvs) w w':=fun D C e1 e2 e3 e4=>by
  subst e1
  exact⟨F,_,C,⟨Y.kept M (fun b A=>by omega),X,e2.kept M (fun b A e=>by have:=e3 b A;omega) (fun f E b A e=>by have:=e4 f E b A;omega),h.ne,g1,g2,g3,by omega⟩,Z⟩
 cases nw with
 |none=>
  obtain⟨rfl,rfl⟩:=o
  refine fin bts _ (by simp) (by rw[s];simpa using t) (fun b A=>.inl (J b A)) P
 |some t2=>
  obtain⟨a2,g,rfl,rfl,q1,q2,n,q4⟩:=o
  refine fin _ (fvs.set i R++[g]) rfl ?_ (fun b A=>?_) (fun f E b A=>?_)
  ·rw[s]
   refine t.add q1 (N:=v.heap.size) (fun b A=>by have:=J b A;omega) (fun f E b A=>?_) q2 n (by omega)
   rcases List.mem_or_eq_of_mem_set E with E|rfl
   ·have:=(G b (.inr (.inr (.inr (.inr (.inr ⟨f,E,A⟩)))))).2;omega
   ·have:=(G b (.inr (.inr (.inr (.inr (.inr ⟨z,List.mem_of_getElem? H,q4 b A⟩)))))).2;omega
  ·rcases List.mem_append.1 A with A|A
   ·exact .inl (J b A)
   ·have:=List.mem_singleton.1 A;omega
  ·rcases List.mem_append.1 E with E|E
   ·exact P f E b A
   ·have:=List.mem_singleton.1 E
    subst this
    exact .inr (n b A)
theorem MO(h:Mx w y L K tv bts fvs m)(hi:m.thr[i]?=some t)(Y:t≠[])(X:(cJ t).pl=(j:Int))(f:y.ss[j]?=some s)(hm:m'.thr=m.thr.set i t1++nw.toList)
  (H:∀D E bt N M,bts[i]?=some bt->L.bm≠E->L.B<=bt->Bw w D->TC D L.B E L.bm bt N s {th:=i,kd:=s.p.kind,pl:=j} M t->Mx D y L K tv bts fvs m->Ca 114 #[aF E] D fun q O=>q=.returned (.bool true)/\Dy D O L K' E bt tv M bts (aF N) s.fn s.nx s.ins e1 t1 nw m'):
  Ca 77 #[aF L.bm,aB i] w fun q w'=>q=.returned (.agg (tH {e1 with en:=t1.isEmpty}))/\∃P T S,Mx w' y L K' P T S m'/\aC (mV L tv bts fvs) w w':=by
 obtain⟨bt,M,F,Q,hT⟩:=h.thr hi
 obtain⟨g,c,gs,cs,-,-,-,-,c3,cc⟩:=h.pg.ex
 obtain⟨N,v,u,r,o,hS⟩:=cc j s f
 have hj:=(List.getElem?_eq_some_iff.1 f).1
 have J:∀b,mV L tv bts fvs b->L.B<=b/\b< w.heap.size:=fun b C=>h.blk C
 have Z:=J bt (.inr (.inr (.inr (.inr (.inl (List.mem_of_getElem? F))))))
 have a0:=J L.bm (.inl rfl)
 refine(Kh (Φ:=fun D O E e' G e=>D.heap[E]?=some (.cells (lQ L.bm bt (aF N) s.fn s.nx s.ins {th:=i,kd:=s.p.kind,pl:=j}) 267 (0,0))/\e'=e1/\e=t1/\Dy D O L K' E bt tv M bts (aF N) s.fn s.nx s.ins e1 t1 nw m') h.rs.mc h.rs.row F hT Y X c3 hj v u r o hS h.ge.2.2.2 (fun D E R V k=>?_)).mono ?_
 ·refine(H D E bt N M F (by omega) Z.1 V k (h.below V)).mono ?_
  rintro q O ⟨rfl,W⟩
  have d:=W
  obtain⟨G,P,n,l,p1,z,x,-⟩:=d
  refine⟨rfl,e1,G,t1,p1,z,x.mono (fun b C q=>?_),k.tu,rfl,rfl,W⟩
  rcases C with C|C|C|C|C|C|C
  ·have:=J b (.inr (.inr (.inr (.inr (.inr ⟨M,List.mem_of_getElem? Q,C⟩)))));omega
  ·omega
  ·omega
  ·have:=J b (.inr (.inl C));omega
  ·have:=J b (.inr (.inr (.inl C)));omega
  ·omega
  ·have:=J b (.inr (.inr (.inr (.inl C))));omega
 ·rintro q w' ⟨D,O,E,e',G,e,rfl,R,V,⟨hu,rfl,rfl,W⟩,k2⟩
  exact⟨rfl,h.did F Q V R hu W hm k2⟩
theorem Kl(h:Mx w y L K tv bts fvs m)(o:m.thr[i]?=some t)(Y:t≠[])(X:(cJ t).pl=-1)(n:m'.thr=m.thr.set i t1)
  (H:∀D E bt M,bts[i]?=some bt->L.bm≠E->L.B<=bt->Bw w D->D.heap[E]?=some (.cells (lQ L.bm bt (.pointer none) 0 0 0 {th:=i,kd:=12,pl:=-1}) 267 (0,0))->cN D L.B bt M t->Mx D y L K tv bts fvs m->Ca 113 #[aF E,vI (0,0)] D fun q N=>q=.returned (.tuple #[])/\Dy D N L K' E bt tv M bts (.pointer none) 0 0 0 {th:=i,kd:=12,pl:=-1} t1 none m'):
  Ca 77 #[aF L.bm,aB i] w fun q w'=>q=.returned (.agg (tH {th:=i,kd:=12,pl:=-1,en:=t1.isEmpty}))/\∃O T S,Mx w' y L K' O T S m'/\aC (mV L tv bts fvs) w w':=by
 obtain⟨bt,M,F,Q,e⟩:=h.thr o
 have J:∀b,mV L tv bts fvs b->L.B<=b/\b< w.heap.size:=fun b C=>h.blk C
 have Z:=J bt (.inr (.inr (.inr (.inr (.inl (List.mem_of_getElem? F))))))
 have p:=J L.bm (.inl rfl)
 refine(Ie (Φ:=fun D N E e' G d=>D.heap[E]?=some (.cells (lQ L.bm bt (.pointer none) 0 0 0 {th:=i,kd:=12,pl:=-1}) 267 (0,0))/\e'={th:=i,kd:=12,pl:=-1}/\d=t1/\Dy D N L K' E bt tv M bts (.pointer none) 0 0 0 {th:=i,kd:=12,pl:=-1} t1 none m') h.rs.mc h.rs.row F e Y X h.ge.2.2.2 (fun D E R P V=>?_)).mono ?_
 ·refine(H D E bt M F (by omega) Z.1 P V (e.below P) (h.below P)).mono ?_
  rintro q N ⟨rfl,W⟩
  have c:=W
  obtain⟨G,O,g,f,l,k,j,-⟩:=c
  refine⟨rfl,G,t1,l,k,j.mono (fun b C q=>?_),V,rfl,rfl,W⟩
  rcases C with C|C|C|C|C|C|C
  ·have:=J b (.inr (.inr (.inr (.inr (.inr ⟨M,List.mem_of_getElem? Q,C⟩)))));omega
  ·omega
  ·omega
  ·have:=J b (.inr (.inl C));omega
  ·have:=J b (.inr (.inr (.inl C)));omega
  ·omega
  ·have:=J b (.inr (.inr (.inr (.inl C))));omega
 ·rintro q w' ⟨D,N,E,e',G,d,rfl,R,P,⟨V,rfl,rfl,W⟩,k2⟩
  exact⟨rfl,h.did F Q P R V W (by simpa using n) k2⟩
end
end
section
theorem wK{t:List Fm}(h:t≠[])(f:Fm):cJ (aZ t f)=f:=by
 have:=kF (l:=aZ t f) (by intro e;have:=ey t f;rw[e]at this;simp at this;exact h (List.length_eq_zero_iff.1 this.symm))
 rw[ey]at this
 unfold aZ at this
 have A:0< t.length:=List.length_pos_iff.2 h
 rw[List.getElem?_set_self (by omega)]at this
 exact(Option.some.inj this).symm
theorem wT(t:List Fm)(f g:Fm):aZ (aZ t f) g=aZ t g:=by
 unfold aZ
 rw[List.length_set,List.set_set]
theorem Hu{t:List Fm}(h:t≠[])(f:Fm)(p:Int):aZ (aZ t f) {cJ (aZ t f)with pl:=p}=aZ t {f with pl:=p}:=by rw[wK h,wT]
def put{α:Type}:List (Nat×α)->Nat->α->List (Nat×α)
 |[],i,y=>[(i,y)]
 |(j,x)::l,i,y=>bif Nat.beq i j then(i,y)::l else(j,x)::put l i y
def del{α:Type}:List (Nat×α)->Nat->List (Nat×α)
 |[],_=>[]
 |(j,x)::l,i=>bif Nat.beq i j then del l i else(j,x)::del l i
def hp:List ((Int×Nat)×Vl)->Int->Nat->Vl->List ((Int×Nat)×Vl)
 |[],i,k,y=>[((i,k),y)]
 |((o,f),x)::l,i,k,y=>bif decide (i=o)&&Nat.beq f k then((o,f),y)::l else((o,f),x)::hp l i k y
theorem nu(a b:Nat):Nat.beq a b=decide (a=b):=by
 cases A:Nat.beq a b with
 |false=>exact(decide_eq_false (fun h=>by subst h;rw[Nat.beq_refl]at A;cases A)).symm
 |true=>exact(decide_eq_true (Nat.eq_of_beq_eq_true A)).symm
theorem yW{α:Type}(l:List (Nat×α))(i:Nat)(y:α)(k:Nat):nJ (put l i y) k=if k=i then some y else nJ l k:=by
 induction l with
 |nil=>simp only[put,nJ,nu];by_cases h:k=i<;>simp[h]
 |cons p l ih=>
  obtain⟨j,x⟩:=p
  simp only[put,nu]
  by_cases h:i=j
  ·subst h;simp only[decide_true,cond_true,nJ,nu];by_cases q:k=i<;>simp[q]
  ·simp only[decide_eq_false h,cond_false,nJ,ih,nu]
   by_cases q:k=i
   ·subst q;simp[h]
   ·simp[q]
theorem FB{α:Type}(l:List (Nat×α))(i k:Nat):nJ (del l i) k=if k=i then none else nJ l k:=by
 induction l with
 |nil=>simp[del,nJ]
 |cons p l ih=>
  obtain⟨j,x⟩:=p
  simp only[del,nu]
  by_cases h:i=j
  ·subst h;simp only[decide_true,cond_true,nJ,ih,nu];by_cases q:k=i<;>simp[q]
  ·simp only[decide_eq_false h,cond_false,nJ,ih,nu]
   by_cases q:k=i
   ·subst q;simp[h]
   ·simp[q]
theorem Kt(l:List ((Int×Nat)×Vl))(i:Int)(k:Nat)(y:Vl)(o:Int)(f:Nat):hg (hp l i k y) o f=if(o,f)=(i,k)then y else hg l o f:=by
 induction l with
 |nil=>
  simp only[hp,hg,nu]
  by_cases h:o=i<;>by_cases q:f=k<;>simp[h,q,eq_comm (a:=k)]
 |cons p l ih=>
  obtain⟨⟨a,b⟩,x⟩:=p
  simp only[hp,nu]
  by_cases h:i=a
  ·by_cases A:b=k
   ·subst h;subst A
    simp only[decide_true,Bool.and_self,cond_true,hg,nu]
    by_cases q:o=i<;>by_cases B:f=b<;>simp[q,B,eq_comm (a:=b)]
   ·simp only[decide_eq_false A,Bool.and_false,cond_false,hg,ih,nu]
    by_cases q:(o,f)=(i,k)
    ·cases q;simp[A]
    ·rw[if_neg q,if_neg q]
  ·simp only[decide_eq_false h,Bool.false_and,cond_false,hg,ih,nu]
   by_cases q:(o,f)=(i,k)
   ·cases q;simp[h]
   ·rw[if_neg q,if_neg q]
section
variable {w w2:World} {y:Pg} {L:Ly} {K K' i j bu bt bs:Nat} {tv fv:Value} {bts:List Nat} {fvs:List Value} {m m':Ms} {s:Fs} {t t0 t1:List Fm} {e e1:Tu} {nw:Option (List Fm)}
theorem AH.mono(h:AH w L K tv bts m)(A:K<=K'):AH w L K' tv bts m:=by
 obtain⟨C,G,F⟩:=h.hd
 obtain⟨B,E,D⟩:=h.hl
 exact⟨h.mc,h.row,⟨C,G.mono A,F⟩,⟨B,E.mono A,D⟩⟩
structure Ap(L:Ly)(bu:Nat)(tv fv:Value):Prop where
 a1:L.bm≠L.hb
 a2:L.bm≠L.lb
 a3:L.bm≠bu
 a4:L.hb≠bu
 a5:L.lb≠bu
 tv:∀b,aT tv b->(b≠L.bm/\b≠L.hb/\b≠L.lb/\b≠bu)/\¬aT fv b
 fv:∀b,aT fv b->b≠L.bm/\b≠L.hb/\b≠L.lb/\b≠bu
theorem AH.ap(h:AH w L K tv bts m){H A:_}(D:w.heap[bu]?=some (.cells A 267 (0,0)))(E:w.ownsRow B 197 7 fv n H):Ap L bu tv fv:=by
 obtain⟨N,G,P⟩:=h.hd
 obtain⟨M,F,O⟩:=h.hl
 refine⟨fun e=>G.nc (by rw[<-e];exact h.mc),fun e=>F.nc (by rw[<-e];exact h.mc),fun e=>?_,fun e=>G.nc (by rw[e];exact D),fun e=>F.nc (by rw[e];exact D),fun b C=>⟨⟨fun e=>?_,fun e=>?_,fun e=>?_,fun e=>?_⟩,fun e=>?_⟩,fun b C=>⟨fun e=>?_,fun e=>?_,fun e=>?_,fun e=>?_⟩⟩
 ·have:=h.mc;rw[e,D]at this;simp at this
 ·subst e;exact dE h.row h.mc (by decide) C
 ·subst e;exact G.no h.row C
 ·subst e;exact F.no h.row C
 ·subst e;exact dE h.row D (by decide) C
 ·obtain⟨-,-,A,z,J⟩:=dN E e
  exact dE h.row J (by decide) C
 ·subst e;exact dE E h.mc (by decide) C
 ·subst e;exact G.no E C
 ·subst e;exact F.no E C
 ·subst e;exact dE E D (by decide) C
def ua(w w2:World)(L:Ly)(K' bu bt bs:Nat)(tv fv:Value)(bts:List Nat)(s:Fs)(e1:Tu)(t0:List Fm)(nw:Option (List Fm))(m':Ms):Prop:=
 TC w2 L.B bu L.bm bt bs s e1 fv t0/\aC (KS L tv fv bt bu) w w2/\∃tv' bts1 fvs1,(∀b,aT tv' b->aT tv b\/w.heap.size<=b)/\AH w2 L K' tv' (bts++bts1) m'/\match nw with
  |none=>bts1=[]/\fvs1=[]
  |some t2=>∃bt2 fv2,bts1=[bt2]/\fvs1=[fv2]/\cN w2 L.B bt2 fv2 t2/\w.heap.size<=bt2/\∀b,aT fv2 b->w.heap.size<=b
theorem CL{F:Nat}{r:Value}(P:TC w L.B bu L.bm bt bs s e fv t)(O:fA s.p.kind=some (F,r))(f:t1=aZ t0 {cJ t0 with pl:=s.nx})(H:Ca F #[aF bu] w fun q C=>q=.returned r/\ua w C L K' bu bt bs tv fv bts s e1 t0 nw m'):
  Ca 114 #[aF bu] w fun q C=>q=.returned (.bool true)/\Dy w C L K' bu bt tv fv bts (aF bs) s.fn s.nx s.ins e1 t1 nw m':=by
 have E:s.p.kind<=10:=by
  generalize s.p.kind=k at O
  match k,O with
  |1,_|2,_|3,_|4,_|5,_|6,_|7,_|8,_|9,_|10,_=>decide
 refine(Lr (Φ:=fun C=>ua w C L K' bu bt bs tv fv bts s e1 t0 nw m') P E ((DP (Φ:=fun C=>ua w C L K' bu bt bs tv fv bts s e1 t0 nw m') P O H).mono ?_)).mono ?_
 ·rintro q C ⟨rfl,K⟩
  exact⟨rfl,_,_,K.1,K⟩
 ·rintro q h ⟨rfl,C,⟨Q,K,M,J,G,g,X,W⟩,h6⟩
  obtain⟨V,N⟩:=h6 _ _ Q
  have ap:=X.ap Q.tu Q.th.row
  have D:∀b,aT fv b->b< w.heap.size:=fun b A=>(dN P.th.row A).2.1
  refine⟨rfl,fv,M,J,G,V.tu,f▸V.th,K.trans (N.mono (fun b A=>.inl A)),fun b A=>.inl A,g,X.kept N (fun e=>(ap.fv _ e).1 rfl) (fun e=>(ap.fv _ e).2.1 rfl) (fun e=>(ap.fv _ e).2.2.1 rfl) (fun b A e=>(ap.tv _ A).2 e),?_⟩
  cases nw with
  |none=>exact W
  |some t2=>
   obtain⟨S,R,d,c,Z,Y,T⟩:=W
   exact⟨S,R,d,c,Z.kept N (fun e=>by have:=D _ e;omega) (fun b A e=>by have:=D _ e;have:=T b A;omega),Y,T,fun b A=>A⟩
theorem ua.own(h:AH w L K tv bts m)(C:TC w L.B bu L.bm bt bs s e fv t)(D:TC w2 L.B bu L.bm bt bs s e1 fv t0)(k:aC (fun b=>aT fv b\/b=bu) w w2)(E:K<=K'):ua w w2 L K' bu bt bs tv fv bts s e1 t0 none m:=by
 have ap:=h.ap C.tu C.th.row
 refine⟨D,k.mono (fun b A=>?_),tv,[],[],fun b A=>.inl A,?_,rfl,rfl⟩
 ·rcases A with A|A
  ·exact .inl A
  ·exact .inr (.inr (.inl A))
 ·rw[List.append_nil]
  refine(h.kept k (fun e=>?_) (fun e=>?_) (fun e=>?_) (fun b A e=>?_)).mono E
  ·rcases e with e|e
   ·exact(ap.fv _ e).1 rfl
   ·exact ap.a3 e
  ·rcases e with e|e
   ·exact(ap.fv _ e).2.1 rfl
   ·exact ap.a4 e
  ·rcases e with e|e
   ·exact(ap.fv _ e).2.2.1 rfl
   ·exact ap.a5 e
  ·rcases e with e|e
   ·exact(ap.tv _ A).2 e
   ·exact(ap.tv _ A).1.2.2.2 e
end
end
section
def ki(s:Fs):Bool:=decide (s.p.ln< 6)&&decide (s.p.nn< 100)&&decide (s.p.side< 100)&&decide (s.r.length<=6)&&s.r.all (fun a=>decide (a.num< 6))
abbrev ku:=List Fm×Option (List Fm)×Ms×Tu
def jV(t:List Fm)(s:Fs)(g:Fm):List Fm:=aZ t {g with pl:=s.nx}
def IY(m:Ms)(t:List Fm)(s:Fs)(e:Tu):Option ku:=match s.r with
 |a::r=>
  if s.p.op=0 then some (jV t s (oY (cJ t) s.p (cD (cJ t) a)),none,m,{e with vl:=cD (cJ t) a})
  else if s.p.op=1 then match r with
   |b::_=>
    if(cD (cJ t) a).1=0/\(cD (cJ t) b).1=0/\-1000000<=(cD (cJ t) a).2+(cD (cJ t) b).2/\(cD (cJ t) a).2+(cD (cJ t) b).2<=1000000 then
     some (jV t s (oY (cJ t) s.p (0,(cD (cJ t) a).2+(cD (cJ t) b).2)),none,m,{e with vl:=(0,(cD (cJ t) a).2+(cD (cJ t) b).2)})
    else none
   |[]=>none
  else none
 |[]=>none
def IX(m:Ms)(t:List Fm)(s:Fs)(e:Tu):Option ku:=match s.r with
 |a::_=>some (jV t s (oY (cJ t) s.p (hg m.hold (-1) a.num)),none,m,{e with fd:=a.num,vl:=hg m.hold (-1) a.num})
 |[]=>none
def IW(m:Ms)(t:List Fm)(s:Fs)(e:Tu):Option ku:=match s.r with
 |a::_=>if(cD (cJ t) a).1< 3 then some (jV t s (cJ t),none,{m with hold:=hp m.hold (-1) s.p.ln (cD (cJ t) a)},{e with fd:=s.p.ln,vl:=cD (cJ t) a})else none
 |[]=>none
def Jj(n:Nat)(v:Vl):Bool:=Nat.beq v.1 n&&decide (0<=v.2)&&decide (v.2< 100)
def IV(m:Ms)(t:List Fm)(s:Fs)(e:Tu):Option ku:=match s.r with
 |a::_=>if Jj 1 (cD (cJ t) a)=true then some (jV t s (oY (cJ t) s.p (hg m.hold (cD (cJ t) a).2 s.p.side)),none,m,{e with ob:=(cD (cJ t) a).2,fd:=s.p.side,vl:=hg m.hold (cD (cJ t) a).2 s.p.side})else none
 |[]=>none
def IU(m:Ms)(t:List Fm)(s:Fs)(e:Tu):Option ku:=match s.r with
 |a::_=>if Jj 1 ((cJ t).lo.getD s.p.ln (0,0))=true/\(cD (cJ t) a).1< 3 then some (jV t s (cJ t),none,{m with hold:=hp m.hold ((cJ t).lo.getD s.p.ln (0,0)).2 s.p.side (cD (cJ t) a)},{e with ob:=((cJ t).lo.getD s.p.ln (0,0)).2,fd:=s.p.side,vl:=cD (cJ t) a})else none
 |[]=>none
def IT(m:Ms)(t:List Fm)(s:Fs)(e:Tu):Option ku:=if m.objs< 8 then some (jV t s (oY (cJ t) s.p (1,m.objs)),none,{m with objs:=m.objs+1},{e with ob:=m.objs,vl:=(1,(m.objs:Int))})else none
def IS(y:Pg)(m:Ms)(t:List Fm)(s:Fs)(e:Tu):Option ku:=match y.bg[s.p.nn]? with
 |some p=>if m.thr.length< 6 then some (jV t s (oY (cJ t) s.p (2,m.thr.length)),some [⟨p,rK (s.r.map (cD (cJ t)))⟩],m,{e with ob:=m.thr.length})else none
 |none=>none
def IQ(m:Ms)(t:List Fm)(s:Fs)(e:Tu):Option ku:=match s.r with
 |a::_=>if Jj 2 (cD (cJ t) a)=true then some (jV t s (cJ t),none,m,{e with ob:=(cD (cJ t) a).2})else none
 |[]=>none
def IP(m:Ms)(i:Nat)(t:List Fm)(s:Fs)(e:Tu):Option ku:=some (jV t s (cJ t),none,{m with hldr:=put m.hldr s.p.nn i},{e with fd:=s.p.nn})
def Db(m:Ms)(i:Nat)(t:List Fm)(s:Fs)(e:Tu):Option ku:=if nJ m.hldr s.p.nn=some i then some (jV t s (cJ t),none,{m with hldr:=del m.hldr s.p.nn},{e with fd:=s.p.nn})else none
def Da(y:Pg)(m:Ms)(t:List Fm)(s:Fs)(e:Tu):Option ku:=match y.bg[s.p.nn]? with
 |some p=>if t.length< 6 then some (t++[⟨p,rK (s.r.map (cD (cJ t)))⟩],none,m,e)else none
 |none=>none
def yY(m:Ms)(t:List Fm)(s:Fs)(e:Tu):Option ku:=match s.r with
 |a::_=>if(cD (cJ t) a).1< 3 then some (aZ t {cJ t with pl:=if cD (cJ t) a=(0,0)then s.nx else s.ins},none,m,{e with vl:=cD (cJ t) a})else none
 |[]=>none
theorem tC{v:Vl}(h:Jj n v=true):∃o:Nat,v=(n,(o:Int))/\o< 100:=by
 obtain⟨a,b⟩:=v
 unfold Jj at h
 simp only[nu,Bool.and_eq_true,decide_eq_true_eq]at h
 obtain⟨⟨B,A⟩,C⟩:=h
 obtain⟨o,rfl⟩:=Int.eq_ofNat_of_zero_le A
 exact⟨o,by rw[B],by omega⟩
section
variable {w:World} {y:Pg} {L:Ly} {K i bu bt bs:Nat} {tv fv:Value} {bts:List Nat} {fvs:List Value} {m m':Ms} {s:Fs} {t t1:List Fm} {e e1:Tu} {nw:Option (List Fm)}
theorem fJ(h:ki s=true):s.p.ln< 6/\s.p.nn< 100/\s.p.side< 100/\s.r.length<=6/\∀a∈s.r,a.num< 6:=by
 unfold ki at h
 simp only[Bool.and_eq_true,decide_eq_true_eq,List.all_eq_true]at h
 exact⟨h.1.1.1.1,h.1.1.1.2,h.1.1.2,h.1.2,h.2⟩
theorem jq(A:t≠[])(g:Fm):jV t s g=aZ (aZ t g) {cJ (aZ t g)with pl:=s.nx}:=(Hu A g s.nx).symm
def AB(w:World)(L:Ly)(K' bu bt bs:Nat)(tv fv:Value)(bts:List Nat)(s:Fs)(x:ku):Prop:=Calls Tryz.prog 114 #[aF bu] w fun q w2=>q=.returned (.bool true)/\Dy w w2 L K' bu bt tv fv bts (aF bs) s.fn s.nx s.ins x.2.2.2 x.1 x.2.1 x.2.2.1
theorem MZ{x:ku}(C:TC w L.B bu L.bm bt bs s e fv t)(h:Mx w y L K tv bts fvs m)(ok:ki s=true)(R:s.p.kind=1)(A:IY m t s e=some x):AB w L (K+1) bu bt bs tv fv bts s x:=by
 obtain⟨M,W,V,T,J⟩:=fJ ok
 have N:fA s.p.kind=_:=congrArg fA R
 unfold IY at A
 split at A
 ·rename_i a r F
  have P:s.r[0]?=some a:=by rw[F];rfl
  have O:=J a (by rw[F];simp)
  split at A
  ·rename_i D
   cases A
   refine CL C N (jq C.ne _) ((Jz C D P O M).mono ?_)
   rintro q Q ⟨rfl,E,H⟩
   exact⟨rfl,ua.own h.rs C E H (by omega)⟩
  ·split at A
   ·rename_i D
    split at A
    ·rename_i b S
     split at A
     ·rename_i G
      cases A
      have E:s.r[1]?=some b:=by rw[F];rfl
      refine CL C N (jq C.ne _) ((Jy C D P E O (J b (by rw[F];simp)) M (x:=(cD (cJ t) a).2) (y:=(cD (cJ t) b).2) (Prod.ext G.1 rfl) (Prod.ext G.2.1 rfl) ?_).mono ?_)
      ·have:=G.2.2
       rw[IntKind.wrap_i64];omega
      ·rintro q Q ⟨rfl,E,H⟩
       exact⟨rfl,ua.own h.rs C E H (by omega)⟩
     ·cases A
    ·cases A
   ·cases A
 ·cases A
theorem MY{x:ku}(A:TC w L.B bu L.bm bt bs s e fv t)(h:Mx w y L K tv bts fvs m)(ok:ki s=true)(H:s.p.kind=2)(C:IX m t s e=some x):AB w L (K+1) bu bt bs tv fv bts s x:=by
 obtain⟨F,S,R,Q,E⟩:=fJ ok
 have G:fA s.p.kind=_:=congrArg fA H
 have ap:=h.rs.ap A.tu A.th.row
 obtain⟨T,O,N⟩:=h.rs.hd
 unfold IX at C
 split at C
 ·rename_i a r D
  cases C
  refine CL A G (jq A.ne _) ((JB A ((aA h.rs.mc).cell 3) O ap.a3 (by rw[D];rfl) (E a (by rw[D];simp)) F).mono ?_)
  rw[N]
  rintro q P ⟨rfl,M,J⟩
  exact⟨rfl,ua.own h.rs A M J (by omega)⟩
 ·cases C
theorem MW{x:ku}(C:TC w L.B bu L.bm bt bs s e fv t)(h:Mx w y L K tv bts fvs m)(ok:ki s=true)(O:s.p.kind=4)(A:IV m t s e=some x):AB w L (K+1) bu bt bs tv fv bts s x:=by
 obtain⟨H,W,G,V,F⟩:=fJ ok
 have M:fA s.p.kind=_:=congrArg fA O
 have ap:=h.rs.ap C.tu C.th.row
 obtain⟨X,S,R⟩:=h.rs.hd
 unfold IV at A
 split at A
 ·rename_i a r D
  split at A
  ·rename_i J
   cases A
   obtain⟨o,E,N⟩:=tC J
   refine CL C M (jq C.ne _) ((Lq C ((aA h.rs.mc).cell 3) S ap.a3 (by rw[D];rfl) (F a (by rw[D];simp)) H E N G).mono ?_)
   rw[R,E]
   rintro q T ⟨rfl,Q,P⟩
   exact⟨rfl,ua.own h.rs C Q P (by omega)⟩
  ·cases A
 ·cases A
theorem ua.held{F:List Fm}{v:Vl}{o:Int}{k:Nat}{E:Int×Int->Option Vl}(h:Mx w y L K tv bts fvs m)(P:∀(o:Int) (k:Nat),(E (o,(k:Int))).getD (0,0)=hg m.hold o k)(G:TC w L.B bu L.bm bt bs s e fv t)(J:TC u L.B bu L.bm bt bs s e1 fv F)(M:bI hQ u L.hb (K+1) (fun y=>if y=(o,(k:Int))then some v else E y))(C:aC (fun b=>b=L.hb\/b=bu) w u):ua w u L (K+1) bu bt bs tv fv bts s e1 F none {m with hold:=hp m.hold o k v}:=by
 have ap:=h.rs.ap G.tu G.th.row
 obtain⟨H,O,N⟩:=h.rs.hl
 refine⟨J,C.mono (fun b A=>?_),tv,[],[],fun b A=>.inl A,?_,rfl,rfl⟩
 ·rcases A with A|A
  ·exact .inr (.inr (.inr (.inl A)))
  ·exact .inr (.inr (.inl A))
 ·rw[List.append_nil]
  refine⟨(C.block _ (aA h.rs.mc).lt (fun e=>?_)).trans h.rs.mc,ig h.rs.row C (fun b A e=>?_),⟨_,M,fun o' D=>?_⟩,⟨H,(O.mono (by omega)).kept C (fun e=>?_),N⟩⟩
  ·rcases e with e|e
   ·exact ap.a1 e
   ·exact ap.a3 e
  ·rcases e with e|e
   ·exact(ap.tv _ A).1.2.1 e
   ·exact(ap.tv _ A).1.2.2.2 e
  ·show(if(o',(D:Int))=(o,(k:Int))then some v else E (o',(D:Int))).getD (0,0)=hg (hp m.hold o k v) o' D
   rw[Kt]
   by_cases q:(o',D)=(o,k)
   ·cases q;simp
   ·rw[if_neg q,if_neg (fun r=>q (by cases r;rfl)),P]
  ·rcases e with e|e
   ·exact h.ne e.symm
   ·exact ap.a5 e
theorem MX{x:ku}(C:TC w L.B bu L.bm bt bs s e fv t)(h:Mx w y L K tv bts fvs m)(ok:ki s=true)(M:K<=1000000)(J:s.p.kind=3)(A:IW m t s e=some x):AB w L (K+1) bu bt bs tv fv bts s x:=by
 obtain⟨F,W,V,T,E⟩:=fJ ok
 have H:fA s.p.kind=_:=congrArg fA J
 have ap:=h.rs.ap C.tu C.th.row
 obtain⟨X,R,Q⟩:=h.rs.hd
 unfold IW at A
 split at A
 ·rename_i a r D
  split at A
  ·rename_i G
   cases A
   refine CL C H rfl ((GA C ((aA h.rs.mc).cell 3) R M ap.a3 h.ge.2.1 (by rw[D];rfl) (E a (by rw[D];simp)) F G).mono ?_)
   rintro q S ⟨rfl,P,O,N⟩
   exact⟨rfl,ua.held h Q C P O N⟩
  ·cases A
 ·cases A
theorem MV{x:ku}(C:TC w L.B bu L.bm bt bs s e fv t)(h:Mx w y L K tv bts fvs m)(ok:ki s=true)(P:K<=1000000)(O:s.p.kind=5)(A:IU m t s e=some x):AB w L (K+1) bu bt bs tv fv bts s x:=by
 obtain⟨J,Y,H,X,G⟩:=fJ ok
 have M:fA s.p.kind=_:=congrArg fA O
 have ap:=h.rs.ap C.tu C.th.row
 obtain⟨Z,V,T⟩:=h.rs.hd
 unfold IU at A
 split at A
 ·rename_i a r E
  split at A
  ·rename_i D
   cases A
   obtain⟨o,F,N⟩:=tC D.1
   refine CL C M rfl ((Lp C ((aA h.rs.mc).cell 3) V P ap.a3 h.ge.2.1 (by rw[E];rfl) (G a (by rw[E];simp)) J F N H D.2).mono ?_)
   rw[F]
   rintro q W ⟨rfl,S,R,Q⟩
   exact⟨rfl,ua.held h T C S R Q⟩
  ·cases A
 ·cases A
theorem MU{x:ku}(C:TC w L.B bu L.bm bt bs s e fv t)(h:Mx w y L K tv bts fvs m)(ok:ki s=true)(M:s.p.kind=6)(D:IT m t s e=some x):AB w L (K+1) bu bt bs tv fv bts s x:=by
 obtain⟨F,Z,Y,X,W⟩:=fJ ok
 have J:fA s.p.kind=_:=congrArg fA M
 have ap:=h.rs.ap C.tu C.th.row
 obtain⟨N,T,S⟩:=h.rs.hd
 obtain⟨G,R,Q⟩:=h.rs.hl
 unfold IT at D
 split at D
 ·rename_i H
  cases D
  refine CL C J (jq C.ne _) ((DQ C h.rs.mc h.ge.1 H F).mono ?_)
  rintro q V ⟨rfl,P,O,E⟩
  refine⟨rfl,P,E.mono (fun b A=>?_),tv,[],[],fun b A=>.inl A,?_,rfl,rfl⟩
  ·rcases A with A|A|A
   ·exact .inl A
   ·exact .inr (.inr (.inl A))
   ·exact .inr (.inr (.inr (.inr (.inr (.inl A)))))
  ·rw[List.append_nil]
   refine⟨O,ig h.rs.row E (fun b A e=>?_),⟨N,(T.mono (by omega)).kept E (fun e=>?_),S⟩,⟨G,(R.mono (by omega)).kept E (fun e=>?_),Q⟩⟩
   ·rcases e with e|e|e
    ·exact(ap.tv _ A).2 e
    ·exact(ap.tv _ A).1.2.2.2 e
    ·exact(ap.tv _ A).1.1 e
   ·rcases e with e|e|e
    ·exact(ap.fv _ e).2.1 rfl
    ·exact ap.a4 e
    ·exact ap.a1 e.symm
   ·rcases e with e|e|e
    ·exact(ap.fv _ e).2.2.1 rfl
    ·exact ap.a5 e
    ·exact ap.a2 e.symm
 ·cases D
theorem MS{x:ku}(C:TC w L.B bu L.bm bt bs s e fv t)(h:Mx w y L K tv bts fvs m)(ok:ki s=true)(J:s.p.kind=8)(A:IQ m t s e=some x):AB w L (K+1) bu bt bs tv fv bts s x:=by
 obtain⟨T,S,R,Q,F⟩:=fJ ok
 have H:fA s.p.kind=_:=congrArg fA J
 unfold IQ at A
 split at A
 ·rename_i a r D
  split at A
  ·rename_i G
   cases A
   obtain⟨o,E,V⟩:=tC G
   refine CL C H rfl ((JC C (by rw[D];rfl) (F a (by rw[D];simp)) E).mono ?_)
   rw[E]
   rintro q P ⟨rfl,O,N⟩
   exact⟨rfl,ua.own h.rs C O (N.mono (fun b M=>.inr M)) (by omega)⟩
  ·cases A
 ·cases A
theorem ua.lock{F:List Fm}{E:Int->Option Int}{C:List (Nat×Nat)}(h:Mx w y L K tv bts fvs m)(G:TC w L.B bu L.bm bt bs s e fv t)(J:TC v L.B bu L.bm bt bs s e1 fv F)(M:bI km v L.lb (K+1) E)(N:∀k:Nat,E (k:Int)=(nJ C k).map (fun(n:Nat)=>(n:Int)))(D:aC (fun b=>b=L.lb\/b=bu) w v):ua w v L (K+1) bu bt bs tv fv bts s e1 F none {m with hldr:=C}:=by
 have ap:=h.rs.ap G.tu G.th.row
 obtain⟨H,P,O⟩:=h.rs.hd
 refine⟨J,D.mono (fun b A=>?_),tv,[],[],fun b A=>.inl A,?_,rfl,rfl⟩
 ·rcases A with A|A
  ·exact .inr (.inr (.inr (.inr (.inl A))))
  ·exact .inr (.inr (.inl A))
 ·rw[List.append_nil]
  refine⟨(D.block _ (aA h.rs.mc).lt (fun e=>?_)).trans h.rs.mc,ig h.rs.row D (fun b A e=>?_),⟨H,(P.mono (by omega)).kept D (fun e=>?_),O⟩,⟨E,M,N⟩⟩
  ·rcases e with e|e
   ·exact ap.a2 e
   ·exact ap.a3 e
  ·rcases e with e|e
   ·exact(ap.tv _ A).1.2.2.1 e
   ·exact(ap.tv _ A).1.2.2.2 e
  ·rcases e with e|e
   ·exact h.ne e
   ·exact ap.a4 e
theorem MR{x:ku}(C:TC w L.B bu L.bm bt bs s e fv t)(h:Mx w y L K tv bts fvs m)(ok:ki s=true)(J:K<=1000000)(A:e.th=(i:Int))(X:i< 1000)(H:s.p.kind=9)(D:IP m i t s e=some x):AB w L (K+1) bu bt bs tv fv bts s x:=by
 obtain⟨W,E,V,T,S⟩:=fJ ok
 have G:fA s.p.kind=_:=congrArg fA H
 have ap:=h.rs.ap C.tu C.th.row
 obtain⟨F,Q,P⟩:=h.rs.hl
 unfold IP at D
 cases D
 refine CL C G rfl ((JA C ((aA h.rs.mc).cell 4) Q J ap.a3 h.ge.2.2.1 E (by rw[A];exact ud (by omega))).mono ?_)
 rintro q R ⟨rfl,O,N,M⟩
 refine⟨rfl,ua.lock h C O N (fun k=>?_) M⟩
 show(if(k:Int)=(s.p.nn:Int)then some e.th else F k)=_
 rw[yW]
 by_cases q:k=s.p.nn
 ·subst q;simp[A]
 ·rw[if_neg (by omega),if_neg q,P]
theorem Ma{x:ku}(A:TC w L.B bu L.bm bt bs s e fv t)(h:Mx w y L K tv bts fvs m)(ok:ki s=true)(D:e.th=(i:Int))(M:s.p.kind=10)(C:Db m i t s e=some x):AB w L (K+1) bu bt bs tv fv bts s x:=by
 obtain⟨W,F,V,T,S⟩:=fJ ok
 have J:fA s.p.kind=_:=congrArg fA M
 have ap:=h.rs.ap A.tu A.th.row
 obtain⟨G,Q,E⟩:=h.rs.hl
 unfold Db at C
 split at C
 ·rename_i H
  cases C
  refine CL A J rfl ((DO A ((aA h.rs.mc).cell 4) Q ap.a3 h.ge.2.2.1 F (by rw[E,H,D];rfl)).mono ?_)
  rintro q R ⟨rfl,P,O,N⟩
  refine⟨rfl,ua.lock h A P (O.mono (by omega)) (fun k=>?_) N⟩
  show(if(k:Int)=(s.p.nn:Int)then none else G k)=_
  rw[FB]
  by_cases q:k=s.p.nn
  ·subst q;simp
  ·rw[if_neg (by omega),if_neg q,E]
 ·cases C
theorem MT{x:ku}(D:TC w L.B bu L.bm bt bs s e fv t)(h:Mx w y L K tv bts fvs m)(ok:ki s=true)(S:s.p.kind=7)(C:IS y m t s e=some x):AB w L (K+1) bu bt bs tv fv bts s x:=by
 obtain⟨P,u,r,O,N⟩:=fJ ok
 have R:fA s.p.kind=_:=congrArg fA S
 have ap:=h.rs.ap D.tu D.th.row
 obtain⟨T,n,l⟩:=h.rs.hd
 obtain⟨Q,k,j⟩:=h.rs.hl
 obtain⟨g,c,v,z,-,-,i,f,-,-⟩:=h.pg.ex
 have H:=h.ts.lt
 unfold IS at C
 split at C
 ·rename_i p hp
  split at C
  ·rename_i M
   cases C
   rw[H]at M⊢
   refine CL D R (jq D.ne _) ((GB D h.rs.mc h.rs.row i (List.getElem?_eq_some_iff.1 hp).1 (f _ _ hp) N O P M h.ge.1 h.ge.2.2.2).mono ?_)
   rintro q o ⟨rfl,G,F,E,d,a,Z,Y,J,X,W,V⟩
   refine⟨rfl,d,J.mono (fun b A=>?_),G,[F],[E],V,⟨a,Z,⟨T,(n.mono (by omega)).kept J (fun e=>?_),l⟩,⟨Q,(k.mono (by omega)).kept J (fun e=>?_),j⟩⟩,F,E,rfl,rfl,Y,X,W⟩
   ·rcases A with A|A|A|A
    ·exact .inr (.inr (.inr (.inr (.inr (.inr A)))))
    ·exact .inr (.inr (.inr (.inr (.inr (.inl A)))))
    ·exact .inl A
    ·exact .inr (.inr (.inl A))
   ·rcases e with e|e|e|e
    ·exact(ap.tv _ e).1.2.1 rfl
    ·exact ap.a1 e.symm
    ·exact(ap.fv _ e).2.1 rfl
    ·exact ap.a4 e
   ·rcases e with e|e|e|e
    ·exact(ap.tv _ e).1.2.2.1 rfl
    ·exact ap.a2 e.symm
    ·exact(ap.fv _ e).2.2.1 rfl
    ·exact ap.a5 e
  ·cases C
 ·cases C
theorem LZ{x:ku}(C:TC w L.B bu L.bm bt bs s e fv t)(h:Mx w y L K tv bts fvs m)(ok:ki s=true)(Q:L.B<=bt)(P:bt∈bts)(O:s.p.kind=11)(D:Da y m t s e=some x):AB w L (K+1) bu bt bs tv fv bts s x:=by
 obtain⟨a,Z,Y,J,H⟩:=fJ ok
 have ap:=h.rs.ap C.tu C.th.row
 obtain⟨g,c,i,j,-,-,T,S,-,-⟩:=h.pg.ex
 unfold Da at D
 split at D
 ·rename_i p hp
  split at D
  ·rename_i M
   cases D
   have N:Kz s.p.kind=_:=congrArg Kz O
   refine JD C N ((JE C ((aA h.rs.mc).cell 0) T (List.getElem?_eq_some_iff.1 hp).1 (S _ _ hp) H J M Q h.ge.2.2.2).mono ?_)
   rintro q X ⟨rfl,E,G,F,R⟩
   have n:∀b,aT fv b\/b=bt->b≠L.bm/\b≠L.hb/\b≠L.lb/\¬aT tv b:=fun b A=>by
    rcases A with A|A
    ·exact⟨(ap.fv b A).1,(ap.fv b A).2.1,(ap.fv b A).2.2.1,fun e=>(ap.tv b e).2 A⟩
    ·subst A
     obtain⟨f,W,l⟩:=h.rs.hd
     obtain⟨d,V,k⟩:=h.rs.hl
     exact⟨fun e=>by have:=C.th.hd;rw[e,h.rs.mc]at this;simp at this,fun e=>W.nc (by rw[<-e];exact C.th.hd),fun e=>V.nc (by rw[<-e];exact C.th.hd),dE h.rs.row C.th.hd (by decide)⟩
   exact⟨rfl,E,tv,[],[],G.tu,G.th,F.mono (fun b A=>by rcases A with A|A;exact .inl A;exact .inr (.inl A)),R,fun b A=>.inl A,by rw[List.append_nil];exact(h.rs.kept F (fun e=>(n _ e).1 rfl) (fun e=>(n _ e).2.1 rfl) (fun e=>(n _ e).2.2.1 rfl) (fun b A e=>(n _ e).2.2.2 A)).mono (by omega),rfl,rfl⟩
  ·cases D
 ·cases D
theorem KA{x:ku}(E:TC w L.B bu L.bm bt bs s e fv t)(h:Mx w y L K tv bts fvs m)(ok:ki s=true)(C:s.p.kind=13\/s.p.kind=14)(A:yY m t s e=some x):AB w L (K+1) bu bt bs tv fv bts s x:=by
 obtain⟨c,Z,Y,X,H⟩:=fJ ok
 unfold yY at A
 split at A
 ·rename_i a r G
  split at A
  ·rename_i P
   cases A
   have Q:Kz s.p.kind=some (174,.tuple #[]):=by rcases C with C|C<;>rw[C]<;>rfl
   refine JD E Q ((Jw E (by rw[G];rfl) (H a (by rw[G];simp)) P).mono ?_)
   rintro q W ⟨rfl,F,S⟩
   obtain⟨-,O,D,V,T,N,M,J⟩:=ua.own (K':=K+1) h.rs E F S (by omega)
   exact⟨rfl,fv,D,V,T,F.tu,F.th,O,fun b R=>.inl R,N,M,J⟩
  ·cases A
 ·cases A
end
end
end Go.Proofs.YtajfbbldaiaolaaGreatDoor
