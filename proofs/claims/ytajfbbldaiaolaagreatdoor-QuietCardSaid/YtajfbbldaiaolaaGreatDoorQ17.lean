import Derived.Maps.OwnSet
import Derived.Test.YtajfbbldaiaolaaGreatDoorQ13
set_option linter.unusedSimpArgs false
set_option linter.unusedVariables false
set_option maxRecDepth 100000
set_option maxHeartbeats 2000000
namespace Go.Proofs.YtajfbbldaiaolaaGreatDoor
open Go.RowKit Go.Shelf
variable {a b c d f i j k s:Nat}{l:List Nat}{v w:World}{x:Rp}
def oP:List Nat->Nat->Option Nat
 |[],_=>none
 |a::l,v=>if a=v then some 0 else(oP l v).map (·+1)
theorem zR:∀(l:List Nat) (v k:Nat),l[k]?=some v->(∀j,j< k->l[j]?≠some v)->oP l v=some k:=by
 intro l
 induction l with
 |nil=>intro v k h;simp at h
 |cons a l ih=>
  intro v k h A
  unfold oP
  cases k with
  |zero=>simp at h;rw[if_pos h]
  |succ k=>
   have B:=A 0 (by omega)
   simp at B
   rw[if_neg B,ih v k (by simpa using h) (fun j C=>by have:=A (j+1) (by omega);simpa using this)]
   rfl
theorem zS:∀(l:List Nat) (v:Nat),(∀j,j< l.length->l[j]?≠some v)->oP l v=none:=by
 intro l
 induction l with
 |nil=>intro v _;rfl
 |cons a l ih=>
  intro v A
  unfold oP
  have B:=A 0 (by simp)
  simp at B
  rw[if_neg B,ih v (fun j C=>by have:=A (j+1) (by simp;omega);simpa using this)]
  rfl
def qh(l:List Nat)(v:Nat):Int:=match oP l v with|some k=>(k:Int)|none=>-1
namespace Rp
def startAt(x:Rp)(s:Nat):Option Nat:=oP x.starts s
end Rp
theorem EK{p:Option Addr}{v B:Nat}(h:w.ownsRow B 175 1 (.slice p l.length c) l.length (dG l))(Q:l.length<=1000000):
  Calls Tryz.prog 232 #[.slice p l.length c,aB v] w (Ru w (aB (qh l v))):=by
 have H:=aG h
 clear h
 go_in
 go_wp2_with fail
 go_loop [8] (fun i=>∃k:Nat,k<=l.length/\i=aB k/\Hid (∀j,j< k->l[j]?≠some v)) (fun i=>l.length-(intOf i).toNat)
 case atStart=>exact⟨0,by omega,rfl,fun j K=>by omega⟩
 case round=>
  obtain⟨k,R,rfl,A⟩:=hrel
  by_cases C:k< l.length
  ·obtain⟨a,F⟩:∃a,l[k]?=some a:=⟨_,List.getElem?_eq_getElem C⟩
   obtain⟨g,rfl⟩:∃g,p=some (Ad g 0):=by
    obtain⟨g,S,e⟩:=aO H (by omega)
    cases e;exact⟨g,rfl⟩
   have P:w.cell? (Ad g k)=some (aB a):=by
    rw[H.out.cellAt _ (by omega)];simp[dG,F]
   have O:w.cell? (Ad g (k*1))=some (aB a):=by rw[Nat.mul_one];exact P
   have L:=aG F
   clear F
   by_cases E:a=v
   ·subst E
    have G:Hid (qh l a=(k:Int)):=by show _=_;unfold qh;rw[zR l a k L.out A.out]
    go_wp2_with fail
    go_ret
    exact⟨by rw[G.out];rfl,rfl⟩
   ·have N:((v:Int)==(a:Int))=false:=by rw[beq_eq_false_iff_ne];omega
    have J:=aG E
    clear E
    go_wp2_with fail
    go_round
    case rel=>
     refine⟨k+1,by omega,by go_num,?_⟩
     intro j K
     by_cases e:j=k
     ·subst e;rw[L.out];exact fun e=>J (by cases e;rfl)
     ·exact A j (by omega)
    case measure=>simp[intOf];omega
  ·have D:k=l.length:=by omega
   have G:Hid (qh l v=-1):=by show _=_;unfold qh;rw[zS l v (fun j K=>A.out j (by omega))]
   have M:¬((k:Int)< (l.length:Int)):=by omega
   clear D C
   go_wp2_with fail
   go_ret
   exact⟨by rw[G.out];rfl,rfl⟩
theorem uO(h:cA w a x)(N:x.starts.length< 64):
  Calls Tryz.prog 162 #[aF a,aB s] w (Ru w (.tuple #[aB (qh x.starts s),.bool (x.startAt s).isSome])):=by
 obtain⟨P,J,tv,K,L,C,F,E,A,-⟩:=h.ex
 obtain⟨p,c,rfl⟩:=aI A
 have O:Ce w a 4 (.slice p x.starts.length c):=C.cell 4
 have H:=aG (EK (v:=s) A (by omega))
 have B:decide (0<=qh x.starts s)=(x.startAt s).isSome:=by
  unfold qh Rp.startAt
  cases oP x.starts s<;>simp
 have G:=aG B
 clear h C F E A B
 go_in
 go_wp2_with fail
 refine H.mono ?_
 rintro r D ⟨rfl,M⟩
 subst D
 go_wp2_with fail
 go_ret2
 exact⟨by rw[<-G.out];rfl,rfl⟩
theorem LV{o t h:Nat}(A:w.cell? (Ad b o)=some (aH t))(E:w.cell? (Ad b (o+1))=some (aH h))(D:w.frozen? (Ad b o)=false)(C:w.frozen? (Ad b (o+1))=false):
  Calls Tryz.prog 216 #[Pt b o,.agg #[aH a,aH c]] w fun r w'=>r=.returned (.tuple #[])/\w'=(((w.setCell ⟨b,o,none⟩ (.int .u64 (fV t a))).setCell ⟨b,o+1,none⟩ (.int .u64 (fV h c))).alloc (.cells #[aH a,aH c] 297)).drew.drew:=by
 have r1:=ff
 have B:=aD A
 go_in
 go_wp2_with fail
 go_region
 go_wp2_with fail
 go_region
 go_wp2_with fail
 go_end0
 exact⟨rfl,rfl⟩
def aE(l:List Nat):Array Value:=(aX l).toArray
def addAt(l:List Nat)(i:Nat)(h:Nat×Nat):List Nat:=(l.set (2*i) (fV (l.getD (2*i) 0) h.1)).set (2*i+1) (fV (l.getD (2*i+1) 0) h.2)
def aQ(l:List Nat)(i:Nat):Nat×Nat:=(l.getD (2*i) 0,l.getD (2*i+1) 0)
theorem jw(l:List Nat)(i:Nat)(h:Nat×Nat):(addAt l i h).length=l.length:=by simp[addAt]
theorem bU(A:j< l.length):(aE l)[j]?=some (aH (l.getD j 0:Nat)):=by
 simp[aE,aX,A]
theorem eI(l:List Nat)(j v:Nat):(aE l).setIfInBounds j (aH (v:Nat))=aE (l.set j v):=by
 simp[aE,aX,List.map_set]
theorem Kx{h:Nat×Nat}(A:aM w b (aE l))(D:2*i+1< l.length):
  Ca 216 #[Pt b (2*i),.agg #[aH h.1,aH h.2]] w fun r w'=>r=.returned (.tuple #[])/\aM w' b (aE (addAt l i h))/\aC (aK b) w w':=by
 refine(LV (t:=l.getD (2*i) 0) (h:=l.getD (2*i+1) 0) ((A.cell _).trans (bU (by omega))) ((A.cell _).trans (bU D)) (A.fz _) (A.fz _)).mono ?_
 rintro r w' ⟨rfl,rfl⟩
 refine⟨rfl,?_,?_⟩
 ·have C:=A.set (2*i) (aH (fV (l.getD (2*i) 0) h.1:Nat)) (by simp[aE,aX];omega)
  rw[eI]at C
  have B:=C.set (2*i+1) (aH (fV (l.getD (2*i+1) 0) h.2:Nat)) (by simp[aE,aX];omega)
  rw[eI]at B
  exact(B.alloc _).below ⟨rfl,rfl,rfl,Nat.le_refl _,fun _ _=>rfl⟩
 ·have k:=(((aC.refl (aK b) w).set1 (2*i) (aH (fV (l.getD (2*i) 0) h.1:Nat))).set1 (2*i+1) (aH (fV (l.getD (2*i+1) 0) h.2:Nat))).alloc (.cells #[aH h.1,aH h.2] 297)
  exact⟨k.os,k.tape,k.output,k.size,k.block⟩
theorem fZ:(Tryz.prog.info? 297).map (·.size)=some 2:=by kernel_rfl
theorem js(w:World)(o o':Obj):((w.alloc o).alloc o').heap[w.heap.size+1]?=some o':=by
 have:=World.alloc_heap_new (w.alloc o) o'
 rwa [World.size_alloc]at this
theorem Kw{n:Nat}{t:ByteArray}{a v:Int}(A:aM w b (aE l))(E:l.length=104)(F:f< 5)(D:n< 6):
  Calls Tryz.prog 215 #[aF b,aB f,.agg #[.string t,aB a,aB n,aB v]] w (Rt w (bif t.toList.isEmpty then .agg #[aH 0,aH 0]else .agg #[aH (aQ l (f*6+n)).1,aH (aQ l (f*6+n)).2])):=by
 have H:w.cell? (Ad b (f*12+n*2))=some (aH (aQ l (f*6+n)).1):=by rw[A.cell,bU (by omega)];unfold aQ;rw[show 2*(f*6+n)=f*12+n*2 by omega]
 have G:w.cell? (Ad b (f*12+n*2+1))=some (aH (aQ l (f*6+n)).2):=by rw[A.cell,bU (by omega)];unfold aQ;rw[show 2*(f*6+n)+1=f*12+n*2+1 by omega]
 have B:=A.lt
 generalize aQ l (f*6+n)=h at *
 clear A
 cases C:t.toList.isEmpty
 ·go_in
  go_wp2_with fail
  go_region
  go_wp2_with fail
  refine bodyPost_ret (results_cell_row rfl _ _ (w.heap.size+1) 297 #[aH h.1,aH h.2] (0,0) _ rfl (js w _ _) Tryz.underlying297 rfl fZ) rfl ⟨rfl,?_⟩
  exact((ba w _).alloc (by simp) _).drew
 ·go_in
  go_wp2_with fail
  refine bodyPost_ret (results_cell_row rfl _ _ (w.heap.size+1) 297 #[aH 0,aH 0] (0,0) _ rfl (js w _ _) Tryz.underlying297 rfl fZ) rfl ⟨rfl,?_⟩
  exact(ba w _).alloc (by simp) _
def fc(l:List Nat)(f:Nat)(p:Ph)(h:Nat×Nat):List Nat:=if p.lt.isEmpty then l else addAt l (f*6+p.ln) h
theorem rU{o:Nat}{h:Nat×Nat}(C:aM w b (aE l))(B:2*i+1< l.length)(A:o=2*i):
  Ca 216 #[Pt b o,.agg #[aH h.1,aH h.2]] w fun r w'=>r=.returned (.tuple #[])/\aM w' b (aE (addAt l i h))/\aC (aK b) w w':=by subst A;exact Kx C B
theorem rT{nx ins:Int}{p:Ph}{sr sb:Value}{h:Nat×Nat}(H:aM w b (aE l))(F:aM w a (bK p sr sb))(hl:l.length=104)(K:a≠b)(hf:f< 5)(hn:p.ln< 6):
  Calls Tryz.prog 214 #[aF b,.agg #[aF a,aB f,aB nx,aB ins],.agg #[aH h.1,aH h.2]] w fun r w'=>r=.returned (.tuple #[])/\aM w' b (aE (fc l f p h))/\aC (aK b) w w':=by
 have d3:w.cell? (Ad a 3)=some (.string ⟨p.lt.toArray⟩):=F.cell 3
 have s:w.cell? (Ad a 5)=some (aB p.ln):=F.cell 5
 have c:=F.lt
 obtain⟨A,B⟩:=bM ((w.alloc (.cells #[aF a,aB f,aB nx,aB ins] 253)).alloc (.cells #[aH h.1,aH h.2] 297))
 have G:Bw w A:=by rw[B];exact(ba w _).alloc (by simp) _
 have C:=aG G
 have M:Hid (w.heap.size+1< A.heap.size):=by show _< _;rw[B];simp
 have Z:=aG H
 have P:(⟨p.lt.toArray⟩:ByteArray).toList.isEmpty=p.lt.isEmpty:=by simp
 unfold fc
 cases O:p.lt.isEmpty
 ·have t:Hid (Ca 216 #[Pt b (f*12+p.ln*2),.agg #[aH h.1,aH h.2]] A.drew fun r w'=>r=.returned (.tuple #[])/\aM w' b (aE (addAt l (f*6+p.ln) h))/\aC (aK b) A.drew w'):=rU (H.below G.drew) (by omega) (by omega)
  rw[O]at P
  have E:=aG B
  have D:Hid (A.cell? (Ad w.heap.size 0)=some (aF a)/\A.cell? (Ad w.heap.size 1)=some (aB f)/\A.cell? (Ad (w.heap.size+1) 0)=some (aH h.1)/\A.cell? (Ad (w.heap.size+1) 1)=some (aH h.2)):=by
   rw[B]
   have X:=(aM.new w #[aF a,aB f,aB nx,aB ins] 253).alloc (.cells #[aH h.1,aH h.2] 297)
   have L:=aM.new (w.alloc (.cells #[aF a,aB f,aB nx,aB ins] 253)) #[aH h.1,aH h.2] 297
   rw[World.size_alloc]at L
   exact⟨X.cell 0,X.cell 1,L.cell 0,L.cell 1⟩
  have y:(0:Int)<=f:=by omega
  have x:(f:Int)< 5:=by omega
  have v:(0:Int)<=p.ln:=by omega
  have u:(p.ln:Int)< 6:=by omega
  clear H F G B
  go_in
  go_wp2_with fail
  have W:A.cell? (Ad w.heap.size 0)=some (aF a):=D.1
  have V:A.cell? (Ad w.heap.size 1)=some (aB f):=D.2.1
  have T:A.cell? (Ad (w.heap.size+1) 0)=some (aH h.1):=D.2.2.1
  have R:A.cell? (Ad (w.heap.size+1) 1)=some (aH h.2):=D.2.2.2
  have Q:A.cell? (Ad a 5)=some (aB p.ln):=bc C s
  have N:Hid (∀w',aC (aK b) A.drew w'->w'.cell? (Ad w.heap.size 0)=some (aF a)/\w'.cell? (Ad w.heap.size 1)=some (aB f)/\w'.cell? (Ad (w.heap.size+1) 0)=some (aH h.1)/\w'.cell? (Ad (w.heap.size+1) 1)=some (aH h.2)/\w'.cell? (Ad a 5)=some (aB p.ln)):=fun w' k=>by
   have d:=Z.lt
   have hz:=M.out
   exact⟨by rw[k.cell (p:=Ad w.heap.size 0) (by show w.heap.size< A.heap.size;omega) (by show¬w.heap.size=b;omega)];exact W,by rw[k.cell (p:=Ad w.heap.size 1) (by show w.heap.size< A.heap.size;omega) (by show¬w.heap.size=b;omega)];exact V,by rw[k.cell (p:=Ad (w.heap.size+1) 0) (by show w.heap.size+1< A.heap.size;omega) (by show¬w.heap.size+1=b;omega)];exact T,by rw[k.cell (p:=Ad (w.heap.size+1) 1) (by show w.heap.size+1< A.heap.size;omega) (by show¬w.heap.size+1=b;omega)];exact R,by rw[k.cell (p:=Ad a 5) (by show a< A.heap.size;omega) K];exact Q⟩
  rw[<-E.out]
  go_region_held3 (fun w'=>w'.cell? (Ad w.heap.size 0)=some (aF a)/\w'.cell? (Ad w.heap.size 1)=some (aB f)/\w'.cell? (Ad (w.heap.size+1) 0)=some (aH h.1)/\w'.cell? (Ad (w.heap.size+1) 1)=some (aH h.2)/\w'.cell? (Ad a 5)=some (aB p.ln)) (first|exact⟨o,n,m,j,g⟩|exact⟨W,V,T,R,Q⟩|go_keep) (first|(go_at_call 216;refine t.mono ?_;rintro q z ⟨rfl,J⟩;have Y:=aG J;obtain⟨o,n,m,j,g⟩:=N _ J.2;clear J))
  all_goals go_wp2_with fail
  all_goals go_end0
  all_goals exact⟨rfl,Y.1,(aC.of_below (S:=aK b) C.drew).trans' Y.2 (fun i e=>.inl e)⟩
 ·rw[O]at P
  have E:=aG B
  clear H F G B
  go_in
  go_wp2_with fail
  rw[<-E.out]
  go_end0
  exact⟨rfl,Z.below C,aC.of_below C⟩
def dy(l:List Nat)(f:Nat)(a:Pa):Nat×Nat:=if a.text.isEmpty then(0,0)else aQ l (f*6+a.num)
def gP(g f:Nat):List Pa->Nat->List Nat->List Nat
 |[],_,l=>l
 |a::r,i,l=>gP g f r (i+1) (addAt l (g*6+i) (dy l f a))
theorem qi{a:Pa}(E:aM w b (aE l))(C:l.length=104)(D:f< 5)(B:a.num< 6):
  Ca 215 #[aF b,aB f,.agg #[.string ⟨a.text.toArray⟩,aB a.at_,aB a.num,aB a.n]] w (Rt w (.agg #[aH (dy l f a).1,aH (dy l f a).2])):=by
 refine(Kw E C D B).mono ?_
 rintro r w' ⟨rfl,A⟩
 refine⟨?_,A⟩
 unfold dy
 have e:(⟨a.text.toArray⟩:ByteArray).toList.isEmpty=a.text.isEmpty:=by simp
 rw[e]
 cases a.text.isEmpty<;>rfl
structure Ml(w wr:World)(b g f k:Nat)(l:List Nat)(r:List Pa)(R:List Nat):Prop where
 kp:aC (aK b) w wr
 ex:∃l',l'.length=104/\aM wr b (aE l')/\gP g f (r.drop k) k l'=R
 le:k<=r.length
theorem mS{r:List Pa}{a:Pa}(h:r[k]?=some a)(j:Nat)(D:j< 4):(eF r)[k*4+j]?=(oK a)[j]?:=by
 have C:=(List.getElem?_eq_some_iff.1 h)
 obtain⟨B,A⟩:=C
 have e:r=r.take k++a::r.drop (k+1):=by rw[<-A,List.getElem_cons_drop,List.take_append_drop]
 have:=yJ (r.take k) (r.drop (k+1)) a j D
 rw[<-e,List.length_take,Nat.min_eq_left (by omega)]at this
 exact this
theorem Gn{nx ins:Int}{p:Ph}{r:List Pa}{sr sb:Value}(hb:aM w b (aE l))(m:aM w c (bK p sr sb))(u:w.ownsRow 0 258 4 sr r.length (eF r))(R:∀i,sr.ownBlock=some i->i≠b)(hl:l.length=104)(T:c≠b)(hf:f< 5)(hg:p.nn< 5)(ag:r.length<=6)(hn:∀a,a∈r->a.num< 6):
  Calls Tryz.prog 219 #[aF b,.agg #[aF c,aB f,aB nx,aB ins]] w fun q w'=>q=.returned (.tuple #[])/\aM w' b (aE (gP p.nn f r 0 l))/\aC (aK b) w w':=by
 obtain⟨pr,cr,rfl⟩:=aI u
 have a2:w.cell? (Ad c 11)=some (aB p.nn):=m.cell 11
 have aj:w.cell? (Ad c 12)=some (.slice pr r.length cr):=m.cell 12
 have W:=m.lt
 have ai:=hb.lt
 obtain⟨Z,D⟩:=bM (w.alloc (.cells #[aF c,aB f,aB nx,aB ins] 253))
 have t:Bw w Z:=by rw[D];exact ba w _
 have af:w.heap.size< Z.heap.size:=by rw[D];simp
 obtain⟨HB,d,HR,a6,HN,a4⟩:=vp (hb.below t) t u R hn D
 have aa:Hid (aM Z w.heap.size #[aF c,aB f,aB nx,aB ins]):=by show aM _ _ _;rw[D];exact aM.new w _ _
 clear hb m u R hn t D
 go_in
 go_wp2_with fail
 rw[<-a4.out]
 go_loopw [12] (fun i wr=>∃k:Nat,i=aB k/\Hid (Ml Z wr b p.nn f k l r (gP p.nn f r 0 l))) (fun i _=>r.length-(intOf i).toNat)
 case atStart=>exact⟨0,rfl,aC.refl _ _,⟨l,hl,HB,rfl⟩,Nat.zero_le _⟩
 case round=>
  obtain⟨k,rfl,H⟩:=hrel
  have z:=H.le
  by_cases hk:k=r.length
  ·have y:¬((k:Int)< (r.length:Int)):=by omega
   have HF:Hid (aM wr b (aE (gP p.nn f r 0 l))):=by
    obtain⟨l',_,h2,h3⟩:=H.ex
    rw[hk,List.drop_length]at h3
    show aM _ _ _
    rw[<-h3]
    exact h2
   clear hk z
   go_wp2_with fail
   go_end0
   exact⟨rfl,HF,(aC.of_below (S:=aK b) d).trans' H.kp (fun i e=>.inl e)⟩
  ·have K:k< r.length:=by omega
   have y:((k:Int)< (r.length:Int)):=by omega
   clear hk
   obtain⟨a,o⟩:∃a,r[k]?=some a:=⟨_,List.getElem?_eq_getElem K⟩
   have x:=HN a (List.mem_of_getElem? o)
   obtain⟨E,rfl⟩:∃E,pr=some (Ad E 0):=by
    obtain⟨g,c',e⟩:=aO HR (by omega)
    cases e;exact⟨g,rfl⟩
   have a1:=a6 E rfl
   have a0:=(HR.lt E rfl).2
   have h:=(aC.of_below (S:=aK b) d).trans' H.kp (fun i e=>.inl e)
   have ad:=H.kp.size
   have V:∀j,j< 4->wr.cell? (Ad E (k*4+j))=(oK a)[j]?:=fun j hj=>by
    rw[h.cell (p:=Ad E (k*4+j)) a0 a1,HR.out.cellAt _ (by omega),mS o j hj]
   have q0:wr.cell? (Ad E (k*4))=some (.string ⟨a.text.toArray⟩):=V 0 (by decide)
   have q1:wr.cell? (Ad E (k*4+1))=some (aB a.at_):=V 1 (by decide)
   have q2:wr.cell? (Ad E (k*4+2))=some (aB a.num):=V 2 (by decide)
   have q3:wr.cell? (Ad E (k*4+3))=some (aB a.n):=V 3 (by decide)
   obtain⟨l',J,B,X⟩:=H.ex
   obtain⟨A,C⟩:=bM (wr.alloc (.cells #[.string ⟨a.text.toArray⟩,aB a.at_,aB a.num,aB a.n] 258))
   have P:Bw wr A:=by rw[C];exact ba wr _
   have ae:wr.heap.size< A.heap.size:=by rw[C];simp
   have G:=(aa.kept H.kp (by show¬w.heap.size=b;omega)).below P
   have F:aM A wr.heap.size #[.string ⟨a.text.toArray⟩,aB a.at_,aB a.num,aB a.n]:=by rw[C];exact aM.new wr _ _
   have Y:A.cell? (Ad c 11)=some (aB p.nn):=by rw[P.cell (p:=Ad c 11) (Nat.lt_of_lt_of_le W h.size),h.cell (p:=Ad c 11) W T];exact a2
   have M:Hid (∀w',aC (aK b) A.drew w'->w'.cell? (Ad w.heap.size 0)=some (aF c)/\w'.cell? (Ad w.heap.size 1)=some (aB f)/\w'.cell? (Ad c 11)=some (aB p.nn)/\w'.cell? (Ad wr.heap.size 0)=some (.string ⟨a.text.toArray⟩)/\w'.cell? (Ad wr.heap.size 1)=some (aB a.at_)/\w'.cell? (Ad wr.heap.size 2)=some (aB a.num)/\w'.cell? (Ad wr.heap.size 3)=some (aB a.n)):=fun w' k=>by
    have s:aM w' w.heap.size _:=(⟨G.cell,G.fz,G.lt⟩:aM A.drew w.heap.size _).kept k (by show¬w.heap.size=b;omega)
    have Q:aM w' wr.heap.size _:=(⟨F.cell,F.fz,F.lt⟩:aM A.drew wr.heap.size _).kept k (by show¬wr.heap.size=b;omega)
    exact⟨s.cell 0,s.cell 1,by rw[k.cell (p:=Ad c 11) (by show c< A.heap.size;omega) T];exact Y,Q.cell 0,Q.cell 1,Q.cell 2,Q.cell 3⟩
   obtain⟨g0,g1,g2,g3,g4,g5,g6⟩:=M A.drew (aC.refl _ _)
   have ab:=aG (qi (w:=A.drew) (f:=f) (a:=a) ((B.below P).below ⟨rfl,rfl,rfl,Nat.le_refl _,fun _ _=>rfl⟩) J hf x)
   have ac:Hid (∀O,Bw A.drew O->Ca 216 #[Pt b (p.nn*12+k*2),.agg #[aH (dy l' f a).1,aH (dy l' f a).2]] O fun r w'=>r=.returned (.tuple #[])/\aM w' b (aE (addAt l' (p.nn*6+k) (dy l' f a)))/\aC (aK b) O w'):=fun O k2=>rU (((B.below P).below ⟨rfl,rfl,rfl,Nat.le_refl _,fun _ _=>rfl⟩:aM A.drew b _).below k2) (by omega) (by omega)
   have a5:Hid (gP p.nn f (r.drop (k+1)) (k+1) (addAt l' (p.nn*6+k) (dy l' f a))=gP p.nn f r 0 l):=by
    show _=_
    rw[<-X,List.drop_eq_getElem_cons K]
    have:r[k]=a:=by have:=List.getElem?_eq_getElem K;rw[o]at this;exact(Option.some.inj this).symm
    rw[this]
    rfl
   have a9:=aG P
   have a8:=aG J
   have a3:=aG C
   have ah:(k:Int)< 6:=by omega
   have s:(0:Int)<=k:=by omega
   have Q:(0:Int)<=p.nn:=by omega
   have y3:(p.nn:Int)< 5:=by omega
   clear V C P G F B J X h o
   go_wp2_with fail
   rw[<-a3.out]
   go_region_held3 (fun w'=>w'.cell? (Ad w.heap.size 0)=some (aF c)/\w'.cell? (Ad w.heap.size 1)=some (aB f)/\w'.cell? (Ad c 11)=some (aB p.nn)/\w'.cell? (Ad wr.heap.size 0)=some (.string ⟨a.text.toArray⟩)/\w'.cell? (Ad wr.heap.size 1)=some (aB a.at_)/\w'.cell? (Ad wr.heap.size 2)=some (aB a.num)/\w'.cell? (Ad wr.heap.size 3)=some (aB a.n)) (first|exact⟨e0,e1,e2,e3,e4,e5,e6⟩|exact⟨g0,g1,g2,g3,g4,g5,g6⟩|go_keep) (first|(go_at_call 215;refine ab.mono ?_;rintro q O ⟨rfl,L⟩;have N:=aG L;obtain⟨e0,e1,e2,e3,e4,e5,e6⟩:=M _ (aC.of_below L);clear L)|(go_at_call 216;refine(ac O N).mono ?_;rintro q w3 ⟨rfl,v⟩;have HQ:=aG v;obtain⟨e0,e1,e2,e3,e4,e5,e6⟩:=M _ ((aC.of_below (S:=aK b) N).trans' v.2 (fun i e=>.inl e));clear v))
   all_goals
    have a7:Hid (Ml Z w3 b p.nn f (k+1) l r (gP p.nn f r 0 l)):=⟨H.kp.trans' ((aC.of_below (S:=aK b) (a9.drew)).trans' ((aC.of_below (S:=aK b) N).trans' HQ.2 (fun i e=>.inl e)) (fun i e=>.inl e)) (fun i e=>.inl e),⟨_,by rw[jw];exact a8,HQ.1,a5⟩,by omega⟩
    clear e0 e1 e2 e3 e4 e5 e6
    go_wp2_with fail
    go_roundw
    case rel=>exact⟨k+1,by go_num,a7⟩
    case measure=>simp[intOf];omega
structure Ac where
 spot:Nat:=0
 wr:Bool:=false
 kind:Nat:=0
 num:Nat:=0
 things:Nat:=0
def IZ(a:Ac):Array Value:=#[.int .i64 a.spot,.bool a.wr,.int .i64 a.kind,.int .i64 a.num,.int .u64 a.things]
def mq(a b:Ac):Int×Bool:=
 if a.kind=b.kind then
  if a.num=b.num then
   if a.kind=0 then(-1,true)
   else if dT a.things b.things=0 then(64,false)else((Lib.ctz 64 (dT a.things b.things):Nat),true)
  else(0,false)
 else(0,false)
theorem GQ(a b:Ac)(P:Tz w):
  Calls Tryz.prog 102 #[.agg #[aB a.spot,.bool a.wr,aB a.kind,aB a.num,aH a.things],.agg #[aB b.spot,.bool b.wr,aB b.kind,aB b.num,aH b.things]] w (Rt w (.tuple #[aB (mq a b).1,.bool (mq a b).2])):=by
 have r1:=gz
 obtain⟨F,E⟩:=bM ((w.alloc (.cells #[aB a.spot,.bool a.wr,aB a.kind,aB a.num,aH a.things] 180)).alloc (.cells #[aB b.spot,.bool b.wr,aB b.kind,aB b.num,aH b.things] 180))
 have M:Bw w F:=by rw[E];exact(ba w _).alloc (by simp) _
 obtain⟨B,N,A⟩:=bY M (P.below M) E
 clear P M E
 unfold mq
 by_cases H:a.kind=b.kind
 ·have T:((a.kind:Int)!=(b.kind:Int))=false:=by rw[bne_eq_false_iff_eq];omega
  simp only[if_pos H]
  by_cases J:a.num=b.num
  ·have S:((a.num:Int)!=(b.num:Int))=false:=by rw[bne_eq_false_iff_eq];omega
   simp only[if_pos J]
   by_cases K:a.kind=0
   ·have R:((a.kind:Int)==0)=true:=by rw[beq_iff_eq];omega
    simp only[if_pos K]
    clear H J K
    go_in
    go_wp2_with fail
    go_ret2
    rw[<-A.out]
    exact⟨rfl,B⟩
   ·have R:((a.kind:Int)==0)=false:=by rw[beq_eq_false_iff_ne];omega
    simp only[if_neg K]
    clear H J K
    obtain⟨x,D⟩:=bM (dT a.things b.things)
    have C:x< ec:=by rw[D];exact sq _ _
    by_cases G:x=0
    ·have O:Hid (Ca 166 #[aH (dT a.things b.things)] F (Ru F (.tuple #[aB 64,.bool false]))):=by show Calls _ _ _ _ _;rw[<-D,G];exact ox F
     rw[<-D,if_pos G]
     clear D G C
     go_in
     go_wp2_with fail
     rw[<-A.out]
     refine O.mono ?_
     rintro r L ⟨rfl,Q⟩
     subst L
     go_wp2_with fail
     go_ret2
     exact⟨rfl,B⟩
    ·have O:Hid (Ca 166 #[aH (dT a.things b.things)] F (Ru F (.tuple #[aB (Lib.ctz 64 x),.bool true]))):=by show Calls _ _ _ _ _;rw[<-D];exact qj x C G F N
     rw[<-D,if_neg G]
     clear D G C
     go_in
     go_wp2_with fail
     rw[<-A.out]
     refine O.mono ?_
     rintro r L ⟨rfl,Q⟩
     subst L
     go_wp2_with fail
     go_ret2
     exact⟨rfl,B⟩
  ·have S:((a.num:Int)!=(b.num:Int))=true:=by rw[bne_iff_ne];omega
   simp only[if_neg J]
   clear H J
   go_in
   go_wp2_with fail
   go_ret2
   rw[<-A.out]
   exact⟨rfl,B⟩
 ·have T:((a.kind:Int)!=(b.kind:Int))=true:=by rw[bne_iff_ne];omega
  simp only[if_neg H]
  clear H
  go_in
  go_wp2_with fail
  go_ret2
  rw[<-A.out]
  exact⟨rfl,B⟩
theorem BO(h:cA w b x)(ok:ft x)(hg:0< w.heap.size)(F:Tz w)(E:s< x.stmts.length)(H:x.runs.length< 64)(D:w.cell? (Ad a 0)=some (aF b)):
  Calls Tryz.prog 167 #[aF a,aB s] w (Rt w (aH (x.runByOf (x.st s).fn))):=by
 have P:=aD D
 have J:(x.st s).fn< 64:=by have:=(ok.st s E).1;omega
 have M:Hid (Ca 204 #[aF b,aB s] w.drew fun r w'=>r=.returned (aB (x.st s).fn)/\w'=w.drew):=jk (h.keep ((Below.refl _ _).drew)) E
 have L:Hid (Ca 235 #[aF b,aB (x.st s).fn] w.drew fun r w'=>r=.returned (aH (x.runByOf (x.st s).fn))/\Bw w.drew w'/\Ce w' a 0 (aF b)):=(GR (h.keep ((Below.refl _ _).drew)) hg (F.below ((Below.refl _ _).drew)) J H).mono (fun r w' C=>⟨C.1,C.2,bc C.2 D⟩)
 clear h ok F
 go_in
 go_wp2_with fail
 go_region_held3 (fun w'=>Ce w' a 0 (aF b)) (first|exact K|exact D|go_keep) (first|(go_at_call 204;refine M.mono ?_;rintro q G ⟨rfl,O⟩;subst G)|(go_at_call 235;refine L.mono ?_;rintro q N ⟨rfl,B,K⟩;have A:=aG B;clear B))
 all_goals go_wp2_with fail
 all_goals go_ret
 all_goals exact⟨rfl,⟨A.os,A.tape,A.output,A.size,A.block⟩⟩
theorem pJ(k:Nat)(A:k+1<=1000)(w:World):
  Calls Tryz.prog 240 #[aB ((k+1:Nat):Int)] w (Ru w (aB (k:Int))):=by
 go_in
 go_wp2_with fail
 go_ret
 exact⟨by go_num,rfl⟩
structure iA(w:World)(bT bR:Nat)(held about:List Nat):Prop where
 ex:∃av,aM w bT (#[aF bR,av]++aE held++aE about)
 lh:held.length=53
 la:about.length=53
theorem iA.keep{w':World}{held:List Nat}(h:iA w a b held l)(k:Bw w w'):iA w' a b held l:=by
 obtain⟨B,A⟩:=h.ex
 exact⟨⟨B,A.below k⟩,h.lh,h.la⟩
theorem aS(l:List Nat):(aE l).size=l.length:=by simp[aE,aX]
theorem iA.prog{held:List Nat}(h:iA w a b held l):w.cell? (Ad a 0)=some (aF b):=by
 obtain⟨B,A⟩:=h.ex
 rw[A.cell 0,Array.getElem?_append_left (by simp[aS];omega),Array.getElem?_append_left (by simp)]
 rfl
theorem iA.heldC{held:List Nat}(h:iA w a b held l)(C:s< 53):w.cell? (Ad a (2+s))=some (aH (held.getD s 0:Nat)):=by
 obtain⟨B,A⟩:=h.ex
 have:=h.lh
 rw[A.cell,Array.getElem?_append_left (by simp[aS];omega),Array.getElem?_append_right (by simp),show 2+s-(#[aF b,B]:Array Value).size=s by simp,bU (by omega)]
theorem iA.aboutC{held:List Nat}(h:iA w a b held l)(C:s< 53):w.cell? (Ad a (55+s))=some (aH (l.getD s 0:Nat)):=by
 obtain⟨B,A⟩:=h.ex
 have:=h.lh
 have:=h.la
 rw[A.cell,Array.getElem?_append_right (by simp[aS];omega),show 55+s-(#[aF b,B]++aE held:Array Value).size=s by simp[aS];omega,bU (by omega)]
namespace Rp
def aboutAtOf(x:Rp)(about:List Nat)(k:Nat):Nat:=if x.runByOf (x.st (x.starts.getD k 0)).fn=aW 0 then about.getD (x.starts.getD k 0) 0 else dB (aW x.starts.length)
end Rp
theorem BU{held:List Nat}(h:cA w b x)(G:iA w a b held l)(ok:ft x)(Q:mE x)(hg:0< w.heap.size)(O:Tz w)(N:k< x.starts.length)(Z:x.starts.length< 64)(Y:x.runs.length< 64)(X:x.stmts.length<=53):
  Calls Tryz.prog 241 #[aF a,aB k] w (Rt w (aH (x.aboutAtOf l k))):=by
 obtain⟨g,c,m,P⟩:=h.start N
 have K:=Q.st k N
 unfold Rp.aboutAtOf
 obtain⟨s,E⟩:=bM (x.starts.getD k 0)
 rw[<-E]at P K⊢
 have i:w.cell? (Ad g (k*1))=some (aB s):=by rw[Nat.mul_one];exact P
 have j:=G.prog
 have R:=aG (BO h ok hg O K Y j)
 have T:Hid (∀W,Bw w W->Ce W a 0 (aF b)/\Ce W a (55+s) (aH (l.getD s 0:Nat))/\Ca 199 #[aF b] W (Ru W (aH (dB (aW x.starts.length))))):=fun W J=>⟨(G.keep J).prog,(G.keep J).aboutC (by omega),jG (h.keep J) Z⟩
 have S:Hid (∀W,Ca 238 #[aB 0] W (Ru W (aH (aW 0)))):=fun W=>te 0 (by decide) W
 have L:s< 53:=by omega
 clear h G ok Q O E K
 by_cases F:x.runByOf (x.st s).fn=aW 0
 ·have f:(((x.runByOf (x.st s).fn:Nat):Int)==((aW 0:Nat):Int))=true:=by rw[beq_iff_eq,F]
  simp only[if_pos F]
  generalize x.runByOf (x.st s).fn=V at *
  clear F
  go_in
  go_wp2_with fail
  refine R.mono ?_
  rintro r H ⟨rfl,A⟩
  obtain⟨e,d,B⟩:=T H A
  have C:=aG A
  clear A B
  go_wp2_with fail
  refine(S _).mono ?_
  rintro r D ⟨rfl,M⟩
  subst D
  go_wp2_with fail
  go_ret
  exact⟨rfl,C⟩
 ·have f:(((x.runByOf (x.st s).fn:Nat):Int)==((aW 0:Nat):Int))=false:=by rw[beq_eq_false_iff_ne];omega
  simp only[if_neg F]
  generalize x.runByOf (x.st s).fn=V at *
  clear F
  go_in
  go_wp2_with fail
  refine R.mono ?_
  rintro r H ⟨rfl,A⟩
  obtain⟨e,d,B⟩:=T H A
  have C:=aG A
  replace B:=aG B
  clear A
  go_wp2_with fail
  refine(S _).mono ?_
  rintro r D ⟨rfl,M⟩
  subst D
  go_wp2_with fail
  refine B.mono ?_
  rintro r D ⟨rfl,M⟩
  subst D
  go_wp2_with fail
  go_ret
  exact⟨rfl,C⟩
namespace Rp
def atATimeOf(x:Rp)(about:List Nat)(ra a rb b:Nat):Bool:=
 if ra=rb then(ra !=0)&&eU x.twice (ra-1)
 else if ra=0 then eU (about.getD a 0) (rb-1)
 else if rb=0 then eU (about.getD b 0) (ra-1)
 else eU (x.aboutAtOf about (ra-1)) (rb-1)||eU (x.aboutAtOf about (rb-1)) (ra-1)
end Rp
theorem Ey{held:List Nat}(B:iA w c d held l)(D:k< 60)(C:a< 53):
  Calls Tryz.prog 169 #[aF c,aB 0,aB a,aB ((k+1:Nat):Int),aB b] w (Rt w (.bool (x.atATimeOf l 0 a (k+1) b))):=by
 have E:=B.aboutC C
 have e:x.atATimeOf l 0 a (k+1) b=eU (l.getD a 0) k:=by unfold Rp.atATimeOf;simp
 rw[e]
 generalize l.getD a 0=v at *
 clear B e
 have A:k< 64:=by omega
 go_in
 go_wp2_with fail
 go_quiet ((first|(go_at_call 240;exact Calls.quiet_of_same (pJ k (by omega) _))|(go_at_call 239;exact Calls.quiet_of_same (kU _ _ A _))))
 go_wp2_with fail
 go_ret
 exact⟨rfl,aR (Below.refl _ _) _⟩
theorem BS{held:List Nat}(B:iA w c d held l)(D:k< 60)(C:b< 53):
  Calls Tryz.prog 169 #[aF c,aB ((k+1:Nat):Int),aB a,aB 0,aB b] w (Rt w (.bool (x.atATimeOf l (k+1) a 0 b))):=by
 have E:=B.aboutC C
 have e:x.atATimeOf l (k+1) a 0 b=eU (l.getD b 0) k:=by unfold Rp.atATimeOf;simp
 rw[e]
 generalize l.getD b 0=v at *
 clear B e
 have A:k< 64:=by omega
 go_in
 go_wp2_with fail
 go_quiet ((first|(go_at_call 240;exact Calls.quiet_of_same (pJ k (by omega) _))|(go_at_call 239;exact Calls.quiet_of_same (kU _ _ A _))))
 go_wp2_with fail
 go_ret
 exact⟨rfl,aR (Below.refl _ _) _⟩
theorem BQ:
  Calls Tryz.prog 169 #[aF c,aB 0,aB a,aB 0,aB b] w (Rt w (.bool (x.atATimeOf l 0 a 0 b))):=by
 have e:x.atATimeOf l 0 a 0 b=false:=by unfold Rp.atATimeOf;simp
 rw[e]
 go_in
 go_wp2_with fail
 go_region
 all_goals go_wp2_with fail
 all_goals go_ret
 all_goals exact⟨rfl,(Below.refl _ _).drew⟩
theorem Ex{held:List Nat}(h:cA w d x)(B:iA w c d held l)(J:k< 60):
  Calls Tryz.prog 169 #[aF c,aB ((k+1:Nat):Int),aB a,aB ((k+1:Nat):Int),aB b] w (Rt w (.bool (x.atATimeOf l (k+1) a (k+1) b))):=by
 obtain⟨M,F,tv,G,H,D,-⟩:=h.ex
 have K:Ce w d 6 (aH x.twice):=D.cell 6
 have L:=B.prog
 have e:x.atATimeOf l (k+1) a (k+1) b=eU x.twice k:=by unfold Rp.atATimeOf;simp
 rw[e]
 generalize x.twice=v at *
 have E:((((k+1:Nat):Int))!=0)=true:=by rw[bne_iff_ne];omega
 have C:decide (((k:Int)+1)=0)=false:=by rw[decide_eq_false_iff_not];omega
 clear h B e D
 have A:k< 64:=by omega
 go_in
 go_wp2_with fail
 go_quiet ((first|(go_at_call 240;exact Calls.quiet_of_same (pJ k (by omega) _))|(go_at_call 239;exact Calls.quiet_of_same (kU _ _ A _))))
 go_wp2_with fail
 go_ret
 exact⟨rfl,aR (Below.refl _ _) _⟩
theorem Hq{held:List Nat}(h:cA w d x)(O:iA w c d held l)(ok:ft x)(S:mE x)(hg:0< w.heap.size)(R:Tz w)(Q:k< x.starts.length)(Z:j< x.starts.length)(Y:k≠j)(m:x.starts.length< 60)(X:x.runs.length< 64)(H:x.stmts.length<=53):
  Calls Tryz.prog 169 #[aF c,aB ((k+1:Nat):Int),aB a,aB ((j+1:Nat):Int),aB b] w (Rt w (.bool (x.atATimeOf l (k+1) a (j+1) b))):=by
 have e:x.atATimeOf l (k+1) a (j+1) b=(eU (x.aboutAtOf l k) j||eU (x.aboutAtOf l j) k):=by unfold Rp.atATimeOf;rw[if_neg (by omega),if_neg (by omega),if_neg (by omega)];rfl
 rw[e]
 have N:Hid (∀W i,Bw w W->i< x.starts.length->Ca 241 #[aF c,aB i] W (Rt W (aH (x.aboutAtOf l i)))):=fun W i G f=>BU (h.keep G) (O.keep G) ok S (Nat.lt_of_lt_of_le hg G.size) (R.below G) f (by omega) X H
 have J:Hid (∀W,Ca 240 #[aB ((k+1:Nat):Int)] W (Ru W (aB (k:Int)))):=fun W=>pJ k (by omega) W
 have K:Hid (∀W,Ca 240 #[aB ((j+1:Nat):Int)] W (Ru W (aB (j:Int)))):=fun W=>pJ j (by omega) W
 have E:Hid (∀W,Ca 239 #[aH (x.aboutAtOf l k),aB j] W (Ru W (.bool (eU (x.aboutAtOf l k) j)))):=fun W=>kU _ _ (by omega) W
 have L:Hid (∀W,Ca 239 #[aH (x.aboutAtOf l j),aB k] W (Ru W (.bool (eU (x.aboutAtOf l j) k)))):=fun W=>kU _ _ (by omega) W
 have V:(((k:Int)+1)==((j:Int)+1))=false:=by rw[beq_eq_false_iff_ne];omega
 have P:((((k+1:Nat):Int))==(((j+1:Nat):Int)))=false:=by rw[beq_eq_false_iff_ne];omega
 clear h O ok S R e
 cases B:eU (x.aboutAtOf l k) j
 ·rw[B]at E
  go_in
  go_wp2_with fail
  refine(J _).mono ?_
  rintro r A ⟨rfl,B⟩
  subst A
  go_wp2_with fail
  refine(N _ k (Below.refl _ _) Q).mono ?_
  rintro r T ⟨rfl,C⟩
  have D:=aG C
  clear C
  go_wp2_with fail
  refine(K _).mono ?_
  rintro r A ⟨rfl,B⟩
  subst A
  go_wp2_with fail
  refine(E _).mono ?_
  rintro r A ⟨rfl,B⟩
  subst A
  go_wp2_with fail
  refine(K _).mono ?_
  rintro r A ⟨rfl,B⟩
  subst A
  go_wp2_with fail
  refine(N _ j D Z).mono ?_
  rintro r g ⟨rfl,F⟩
  have M:=aG (D.trans (F.mono D.size))
  clear F
  go_wp2_with fail
  refine(J _).mono ?_
  rintro r A ⟨rfl,B⟩
  subst A
  go_wp2_with fail
  refine(L _).mono ?_
  rintro r A ⟨rfl,B⟩
  subst A
  go_wp2_with fail
  go_ret
  exact⟨by simp,M⟩
 ·rw[B]at E
  go_in
  go_wp2_with fail
  refine(J _).mono ?_
  rintro r A ⟨rfl,B⟩
  subst A
  go_wp2_with fail
  refine(N _ k (Below.refl _ _) Q).mono ?_
  rintro r T ⟨rfl,C⟩
  have D:=aG C
  clear C
  go_wp2_with fail
  refine(K _).mono ?_
  rintro r A ⟨rfl,B⟩
  subst A
  go_wp2_with fail
  refine(E _).mono ?_
  rintro r A ⟨rfl,B⟩
  subst A
  go_wp2_with fail
  go_ret
  exact⟨by simp,D⟩
structure jd(w:World)(bH bR shared:Nat)(cs:List Nat):Prop where
 ex:∃mv,aM w bH (#[.int .u64 shared,aF bR,mv]++aE cs)
 len:cs.length=104
theorem jd.keep{w':World}(h:jd w a b c l)(k:Bw w w'):jd w' a b c l:=by
 obtain⟨A,B⟩:=h.ex
 exact⟨⟨A,B.below k⟩,h.len⟩
theorem jd.sharedC(h:jd w a b c l):w.cell? (Ad a 0)=some (aH c):=by
 obtain⟨B,A⟩:=h.ex
 rw[A.cell,Array.getElem?_append_left (by simp)]
 rfl
theorem jd.src(h:jd w a b c l):w.cell? (Ad a 1)=some (aF b):=by
 obtain⟨B,A⟩:=h.ex
 rw[A.cell,Array.getElem?_append_left (by simp)]
 rfl
theorem jd.word(h:jd w a b c l)(C:j< 104):w.cell? (Ad a (3+j))=some (aH (l.getD j 0:Nat)):=by
 obtain⟨A,B⟩:=h.ex
 have:=h.len
 rw[B.cell,Array.getElem?_append_right (by simp),show 3+j-(#[aH c,aF b,A]:Array Value).size=j by simp,bU (by omega)]
theorem Cw{n:Nat}{t:ByteArray}{a:Int}(h:cA w c x)(A:jd w b c d l)(C:s< x.stmts.length)(P:(x.st s).fn< 5)(N:n< 6):
  Calls Tryz.prog 148 #[aF b,aB s,.agg #[.string t,aB a,aB n]] w (Rt w (.agg #[aH (aQ l ((x.st s).fn*6+n)).1,aH (aQ l ((x.st s).fn*6+n)).2])):=by
 have D:=A.src
 have O:=aD D
 have E:Hid (∀W,Bw w W->Ca 204 #[aF c,aB s] W (Ru W (aB (x.st s).fn))):=fun W k=>jk (h.keep k) C
 generalize(x.st s).fn=f at *
 have L:w.cell? (Ad b (3+f*12+n*2))=some (aH (aQ l (f*6+n)).1):=by
  have:=A.word (j:=2*(f*6+n)) (by omega)
  rw[show 3+2*(f*6+n)=3+f*12+n*2 by omega]at this
  exact this
 have K:w.cell? (Ad b (3+f*12+n*2+1))=some (aH (aQ l (f*6+n)).2):=by
  have:=A.word (j:=2*(f*6+n)+1) (by omega)
  rw[show 3+(2*(f*6+n)+1)=3+f*12+n*2+1 by omega]at this
  exact this
 generalize aQ l (f*6+n)=v at *
 clear h A
 have J:(0:Int)<=f:=by omega
 have H:(f:Int)< 5:=by omega
 have G:(0:Int)<=n:=by omega
 have F:(n:Int)< 6:=by omega
 go_in
 go_wp2_with fail
 go_region_held3 (fun w'=>w'.cell? (Ad b 1)=some (aF c)/\w'.cell? (Ad w.heap.size 2)=some (aB n)/\w'.cell? (Ad b (3+f*12+n*2))=some (aH v.1)/\w'.cell? (Ad b (3+f*12+n*2+1))=some (aH v.2)) (first|go_keep) (first|(go_at_call 204;refine(E _ (by exact((ba w _).alloc (by simp) _).drew)).mono ?_;rintro q B ⟨rfl,M⟩;subst B))
 all_goals go_wp2_with fail
 all_goals
  refine bodyPost_ret (results_cell_row rfl _ _ (w.heap.size+1) 297 #[aH v.1,aH v.2] (0,0) _ rfl (js w _ _) Tryz.underlying297 rfl fZ) rfl ⟨rfl,?_⟩
  exact((ba w _).alloc (by simp) _).drew
namespace Rp
def joinedOf(x:Rp)(cs:List Nat)(s:Nat):Nat:=
 if(x.st s).p.kind=8 then
  if ir (aQ cs ((x.st s).fn*6+((x.st s).r.getD 0 ⟨[],0,0,0⟩).num)).2=1 then ew (aQ cs ((x.st s).fn*6+((x.st s).r.getD 0 ⟨[],0,0,0⟩).num)).2 x.twice else 0
 else 0
end Rp
theorem oQ(a b:Int)(w:World):(Instr.field 297 (.agg #[aH a,aH b]) 1).run Tryz.prog w=.ok (aH b) w:=by kernel_rfl
theorem FF(h:cA w f x)(V:jd w d f i l)(Y:s< x.stmts.length)(hf:(x.st s).fn< 5)(T:(x.st s).p.kind=8->0< (x.st s).r.length/\((x.st s).r.getD 0 ⟨[],0,0,0⟩).num< 6):
  Calls Tryz.prog 165 #[aF f,aF d,aB s] w (Rt w (aH (x.joinedOf l s))):=by
 have r1:=iK
 have a1:=oQ
 obtain⟨g,c,b,sr,sb,c0,c1,c2,c3,c4,M,C⟩:=h.stm Y
 obtain⟨bv,sv,tv,rv,lv,P,-⟩:=h.ex
 have d2:Ce w b 2 (aB (x.st s).p.kind):=M.cell 2
 have a3:Ce w b 12 sr:=M.cell 12
 have a2:=M.lt
 have hR:=P.lt
 obtain⟨W0,D⟩:=bM (w.alloc (.cells #[aF b,aB (x.st s).fn,aB (x.st s).nx,aB (x.st s).ins] 253))
 have G:Bw w W0:=by rw[D];exact ba w _
 unfold Rp.joinedOf
 by_cases L:(x.st s).p.kind=8
 ·obtain⟨K,J⟩:=T L
  obtain⟨Q,cr,e⟩:=aO C (by omega)
  subst e
  obtain⟨a,X⟩:∃a,(x.st s).r.getD 0 ⟨[],0,0,0⟩=a:=⟨_,rfl⟩
  have N:(x.st s).r[0]?=some a:=by rw[<-X,List.getD_eq_getElem?_getD,List.getElem?_eq_getElem K];rfl
  rw[X]at J⊢
  have q:∀j,j< 4->w.cell? (Ad Q j)=(oK a)[j]?:=fun j z=>by
   rw[C.cellAt j (by omega)]
   have:=mS N j z
   rw[Nat.zero_mul,Nat.zero_add]at this
   exact this
  have n:Ce w Q 0 (.string ⟨a.text.toArray⟩):=q 0 (by decide)
  have q1:Ce w Q 1 (aB a.at_):=q 1 (by decide)
  have q2:Ce w Q 2 (aB a.num):=q 2 (by decide)
  have a0:=aD n
  have e1:(((x.st s).p.kind:Int)!=8)=false:=by rw[bne_eq_false_iff_eq];omega
  have k:=aG (Cw (t:=⟨a.text.toArray⟩) (a:=a.at_) (h.keep G) (V.keep G) Y hf J)
  have Z:Hid (∀W v,Ca 233 #[aH (v:Nat)] W (Ru W (aB (ir v)))):=fun W v=>Cn v W
  have O:Hid (∀W,Bw w W->W.cell? (Ad f 6)=some (aH x.twice)):=fun W o=>by rw[o.cell (p:=Ad f 6) hR];exact P.cell 6
  obtain⟨A,E⟩:=aN G D
  simp only[if_pos L]
  generalize aQ l ((x.st s).fn*6+a.num)=v at *
  have u:=K
  clear h V M C P L G D T q X N
  by_cases H:ir v.2=1
  ·have e2:((ir v.2:Int)!=1)=false:=by rw[bne_eq_false_iff_eq];exact H
   simp only[if_pos H]
   clear H
   go_in
   go_wp2_with fail
   rw[<-E.out]
   refine k.mono ?_
   rintro r S ⟨rfl,B⟩
   have m:=O S (A.trans (B.mono A.size))
   have F:=aG B
   clear B
   go_wp2_with fail
   refine(Z _ _).mono ?_
   rintro r R ⟨rfl,y⟩
   subst R
   go_wp2_with fail
   go_ret
   exact⟨rfl,A.trans (F.mono A.size)⟩
  ·have e2:((ir v.2:Int)!=1)=true:=by rw[bne_iff_ne];exact H
   simp only[if_neg H]
   clear H
   go_in
   go_wp2_with fail
   rw[<-E.out]
   refine k.mono ?_
   rintro r S ⟨rfl,B⟩
   have m:=O S (A.trans (B.mono A.size))
   have F:=aG B
   clear B
   go_wp2_with fail
   refine(Z _ _).mono ?_
   rintro r R ⟨rfl,y⟩
   subst R
   go_wp2_with fail
   go_ret
   exact⟨rfl,A.trans (F.mono A.size)⟩
 ·have e1:(((x.st s).p.kind:Int)!=8)=true:=by rw[bne_iff_ne];omega
  simp only[if_neg L]
  obtain⟨A,E⟩:=aN G D
  clear h V M C P L G D T
  go_in
  go_wp2_with fail
  rw[<-E.out]
  go_ret
  exact⟨rfl,A⟩
section
open Go.Maps
def iL(w:World)(b c:Nat)(f:Nat->Option Nat):Prop:=∃D:DataW Unit,w.ownsMap Tryz.prog 175 (plainElem Tryz.prog 307) b c D/\Maps.size D=c/\(∀s:Nat,has D (.int .i64 s)=(f s).isSome)/\∀(s x:Nat),f s=some x->∀z,D.atKey (.int .i64 s) z=.lit (.int .i64 x)
theorem sF:Keyed Tryz.prog 175:=int_keyed Tryz.underlying175
theorem Dz(w:World):(zeroValue 307).run Tryz.prog w=.ok (aB 0) w:=by kernel_rfl
theorem yC(s:Nat)(A:s<=1000000):keyOf Tryz.prog 175 (.int .i64 s)=some (.int .i64 s):=keyOf_int_mk Tryz.underlying175 (show(Lit.int .i64 (s:Int)).wf=true from WalkArith.wf_i64 (by omega))
theorem yB{t:Nat}(h:s≠t):Lit.int .i64 (s:Int)≠Lit.int .i64 (t:Int):=fun e=>h (by injection e with _ e;omega)
theorem iL.new(w:World):iL (w.alloc (.map #[] 0)) w.heap.size 0 (fun _=>none):=⟨.map [],World.ownsMap_made w _ _ _,rfl,fun _=>rfl,fun _ _ h=>by cases h⟩
theorem iL.look{f:Nat->Option Nat}(h:iL w b c f)(s:Nat)(hs:s<=1000000):
  (Instr.lookup 295 (.map (some b)) (.int .i64 s) false).run Tryz.prog w=.ok (.int .i64 ((f s).getD 0:Nat)) w:=by
 obtain⟨D,h1,_,h2,h3⟩:=h
 obtain⟨v,ps,hrun,hv⟩:=h1.lookup sF Tryz.underlying295 (Dz w) (plainElem_int Tryz.underlying307 (by decide)) (yC s hs)
 rw[hrun]
 cases hf:f s with
 |none=>
  have hn:has D (.int .i64 s)=false:=by rw[h2,hf];rfl
  rw[atKey_of_not_has hn]at hv
  obtain⟨a,rfl,e,_⟩:=plainElem_int_inv Tryz.underlying307 hv
  cases e;rfl
 |some x=>
  rw[h3 _ x hf]at hv
  obtain⟨a,rfl,e,_⟩:=plainElem_int_inv Tryz.underlying307 hv
  cases e;rfl
theorem iL.len{f:Nat->Option Nat}(h:iL w b c f)(ty:TypeId):(Builtin.len_ #[295] ty #[.map (some b)]).run Tryz.prog w=.ok (aB c) w:=by
 obtain⟨D,A,B,_,_⟩:=h
 rw[A.len Tryz.underlying295,B]
theorem iL.add{f:Nat->Option Nat}(h:iL w b c f)(s:Nat)(hs:s<=1000000)(hn:c<=1000000)(hf:f s=none)(x:Nat)(hx:x<=1000000):
  ∃w',(Instr.mapUpdate 295 (.map (some b)) (.int .i64 s) (.int .i64 x)).run Tryz.prog w=.ok () w'/\iL w' b (c+1) (fun t=>if t=s then some x else f t)/\w.mapTurned w' b:=by
 obtain⟨D,h1,h0,h2,h3⟩:=h
 obtain⟨w',hrun,h4,h5⟩:=h1.store sF Tryz.underlying295 (by unfold maxLen;omega) (yC s hs) (plainElem_int Tryz.underlying307 (show(Lit.int .i64 (x:Int)).wf=true from WalkArith.wf_i64 (by omega)))
 refine⟨w',hrun,⟨_,h4,?_,fun t=>?_,fun t y hy z=>?_⟩,h5⟩
 ·rw[size_put (h1.tidy sF),if_neg (by rw[h2,hf];simp),h0]
 ·by_cases e:t=s
  ·subst e;rw[has_put_same (k:=.int .i64 t) h1.isMap (show WideAt.IsKeyLit (.int .i64 _)from trivial)];simp
  ·rw[has_put_other (yB e),h2];simp[e]
 ·by_cases e:t=s
  ·subst e;simp at hy;subst hy;exact atKey_put_same h1.isMap (show WideAt.IsKeyLit (.int .i64 _)from trivial) _ _
  ·rw[atKey_put_other (yB e)];simp[e]at hy;exact h3 t y hy z
theorem iL.move{w':World}{f:Nat->Option Nat}(h:iL w b c f)(e:w'.heap[b]?=w.heap[b]?):iL w' b c f:=by
 obtain⟨D,⟨E,F,C,B⟩,A⟩:=h
 exact⟨D,⟨E,F,by rw[e];exact C,B⟩,A⟩
theorem iL.lt{f:Nat->Option Nat}(h:iL w b c f):b< w.heap.size:=by
 obtain⟨D,⟨E,F,A,C⟩,B⟩:=h
 exact(gl A)
theorem iL.keep{w':World}{f:Nat->Option Nat}(h:iL w b c f)(k:Bw w w'):iL w' b c f:=h.move (k.block b h.lt)
end
theorem cA.stmO{u:World}(h:cA u d x)(k:Bw u w)(G:s< x.stmts.length):∃g c C sr sb,w.cell? (Ad d 3)=some (.slice (some (Ad g 0)) x.stmts.length c)/\w.cell? (Ad g (s*4))=some (aF C)/\w.cell? (Ad g (s*4+1))=some (aB (x.st s).fn)/\w.cell? (Ad g (s*4+2))=some (aB (x.st s).nx)/\w.cell? (Ad g (s*4+3))=some (aB (x.st s).ins)/\aM w C (bK (x.st s).p sr sb)/\w.ownsRow 0 258 4 sr (x.st s).r.length (eF (x.st s).r)/\C< u.heap.size/\(∀i,sr.ownBlock=some i->i< u.heap.size)/\d< u.heap.size:=by
 obtain⟨g,c,b,sr,sb,F,L,K,J,H,E,D⟩:=h.stm G
 have B:∀{p:Addr} {v:Value},u.cell? p=some v->w.cell? p=some v:=fun hp=>(k.cell (aD hp)).trans hp
 exact⟨g,c,b,sr,sb,B F,B L,B K,B J,B H,E.below k,aP D k,E.lt,fun i e=>(D.lt i e).2,aD F⟩
def ek(w:World)(b bs fn:Nat)(nx ins:Int):World:=(w.alloc (.cells #[aF b] 313)).alloc (.cells #[aF bs,.int .i64 fn,.int .i64 nx,.int .i64 ins] 253)
theorem aU(w:World)(b B A:Nat)(nx ins:Int):Bw w (ek w b B A nx ins):=(ba w _).alloc (by simp) _
theorem iS{w':World}{nx ins:Int}{A:Array Value}(k:aC (aK b) (ek w b a c nx ins) w')(H:b< w.heap.size)(E:aM w a A)(C:a≠b):
  w'.cell? (Ad w.heap.size 0)=some (aF b)/\w'.cell? (Ad (w.heap.size+1) 0)=some (aF a)/\w'.cell? (Ad (w.heap.size+1) 1)=some (aB c)/\w'.cell? (Ad (w.heap.size+1) 2)=some (aB nx)/\w'.cell? (Ad (w.heap.size+1) 3)=some (aB ins)/\aM w' a A:=by
 have G:=(aM.new w #[aF b] 313).alloc (.cells #[aF a,aB c,aB nx,aB ins] 253)
 have D:=aM.new (w.alloc (.cells #[aF b] 313)) #[aF a,aB c,aB nx,aB ins] 253
 rw[World.size_alloc]at D
 have F:=G.kept k (by show¬w.heap.size=b;omega)
 have B:=D.kept k (by show¬w.heap.size+1=b;omega)
 exact⟨F.cell 0,B.cell 0,B.cell 1,B.cell 2,B.cell 3,(E.below (aU w b a c nx ins)).kept k C⟩
def Fs.a0(s:Fs):Pa:=s.r.getD 0 ⟨[],0,0,0⟩
theorem qu{sr:Value}{st:Fs}(h:w.ownsRow 0 258 4 sr st.r.length (eF st.r))(C:0< st.r.length):∃A B,sr=.slice (some (Ad A 0)) st.r.length B/\A< w.heap.size/\∀W:World,(∀j,W.cell? (Ad A j)=w.cell? (Ad A j))->W.cell? (Ad A 0)=some (.string ⟨st.a0.text.toArray⟩)/\W.cell? (Ad A 1)=some (aB st.a0.at_)/\W.cell? (Ad A 2)=some (aB st.a0.num)/\W.cell? (Ad A 3)=some (aB st.a0.n):=by
 obtain⟨A,B,rfl⟩:=aO h (by omega)
 have E:st.r[0]?=some st.a0:=by unfold Fs.a0;rw[List.getD_eq_getElem?_getD,List.getElem?_eq_getElem C];rfl
 refine⟨A,B,rfl,(h.lt A rfl).2,fun W e=>?_⟩
 have q:∀j,j< 4->W.cell? (Ad A j)=(oK st.a0)[j]?:=fun j D=>by
  rw[e j,h.cellAt j (by omega)]
  have:=mS E j D
  rw[Nat.zero_mul,Nat.zero_add]at this
  exact this
 exact⟨q 0 (by decide),q 1 (by decide),q 2 (by decide),q 3 (by decide)⟩
namespace Rp
def setG(x:Rp)(l:List Nat)(s:Nat):List Nat:=fc l (x.st s).fn (x.st s).p (dy l (x.st s).fn (x.st s).a0)
def storeG(x:Rp)(l:List Nat)(s:Nat):List Nat:=addAt l (30+(x.st s).p.ln) (dy l (x.st s).fn (x.st s).a0)
def loadG(x:Rp)(l:List Nat)(s:Nat):List Nat:=fc l (x.st s).fn (x.st s).p (aQ l (30+(x.st s).a0.num))
end Rp
structure lz(s:Fs):Prop where
 fn:s.fn< 5
 ln:s.p.ln< 6
 side:s.p.side< 2
 nn:s.p.nn< 5
 len:s.r.length<=6
 num:∀a,a∈s.r->a.num< 6
theorem Cx{m:Nat}(h:cA v m x)(k:Bw v w)(u:s< x.stmts.length)(a9:v.heap.size<=b)(Y:aM w b (aE l))(hl:l.length=104)(c1:w.cell? (Ad d 1)=some (aF m))(O:lz (x.st s))(hk:(x.st s).p.kind=3)(h5:(x.st s).p.ln< 5)(y:0< (x.st s).r.length):
  Calls Tryz.prog 145 #[aF d,aF b,aB s] w fun q w'=>q=.returned (.tuple #[])/\aM w' b (aE (x.storeG l s))/\aC (aK b) w w':=by
 obtain⟨g,c,A,sr,sb,z3,z4,z5,z6,z7,C,D,a8,M,aa⟩:=h.stmO k u
 have Q:A≠b:=by omega
 have X:=Y.lt
 have ac:d< w.heap.size:=aD c1
 have ab:m< w.heap.size:=aD z3
 have ad:g< w.heap.size:=aD z4
 have a7:=u
 obtain⟨B,cr,rfl,T,N⟩:=qu D y
 have V:B≠b:=by have:=M B rfl;omega
 have R:(x.st s).a0.num< 6:=O.num _ (by unfold Fs.a0;rw[List.getD_eq_getElem?_getD,List.getElem?_eq_getElem y];exact List.getElem_mem _)
 unfold Rp.storeG
 have d2:w.cell? (Ad A 2)=some (aB 3):=by rw[C.cell 2];simp[bK,hk]
 have W:=O.fn
 generalize x.st s=st at *
 have z:=C.lt
 have G:Hid (∀w',aC (aK b) (ek w b A st.fn st.nx st.ins).drew w'->Ce w' w.heap.size 0 (aF b)/\Ce w' (w.heap.size+1) 0 (aF A)/\Ce w' (w.heap.size+1) 1 (aB st.fn)/\Ce w' A 5 (aB st.p.ln)/\Ce w' A 12 (.slice (some (Ad B 0)) st.r.length cr)/\Ce w' B 0 (.string ⟨st.a0.text.toArray⟩)/\Ce w' B 1 (aB st.a0.at_)/\Ce w' B 2 (aB st.a0.num)/\w'.cell? (Ad B 3)=some (aB st.a0.n)):=fun w' L=>by
  have K:aC (aK b) (ek w b A st.fn st.nx st.ins) w':=⟨L.os,L.tape,L.output,L.size,L.block⟩
  obtain⟨a1,a2,a3,a4,a5,a6⟩:=iS K X C Q
  have kw:=(aC.of_below (S:=aK b) (aU w b A st.fn st.nx st.ins)).trans' K (fun i e=>.inl e)
  obtain⟨b1,b2,b3,b4⟩:=N w' (fun j=>kw.cell (p:=Ad B j) T V)
  exact⟨a1,a2,a3,a6.cell 5,a6.cell 12,b1,b2,b3,b4⟩
 obtain⟨g0,g1,g2,g3,g4,g5,g6,g7,g8⟩:=G _ (aC.refl _ _)
 have E:aM (ek w b A st.fn st.nx st.ins).drew b (aE l):=Y.below (aU w b A st.fn st.nx st.ins).drew
 have o:=aG (qi (f:=st.fn) (a:=st.a0) E hl W R)
 have t:Hid (∀J,Below (ek w b A st.fn st.nx st.ins).drew.heap.size (ek w b A st.fn st.nx st.ins).drew J->Ca 216 #[Pt b (60+st.p.ln*2),.agg #[aH (dy l st.fn st.a0).1,aH (dy l st.fn st.a0).2]] J fun r w'=>r=.returned (.tuple #[])/\aM w' b (aE (addAt l (30+st.p.ln) (dy l st.fn st.a0)))/\aC (aK b) J w'):=fun J k2=>rU (E.below k2) (by omega) (by omega)
 have HD:Hid ((w.alloc (.cells #[aF b] 313)).alloc (.cells #[aF A,aB st.fn,aB st.nx,aB st.ins] 253)=ek w b A st.fn st.nx st.ins):=rfl
 have Z:=aG (aU w b A st.fn st.nx st.ins)
 clear h k C D M N E Y O
 have y1:(0:Int)<=st.p.ln:=by omega
 have y2:(st.p.ln:Int)< 5:=by omega
 go_in
 go_wp2_with fail
 rw[HD.out]
 go_region_held3 (fun w'=>Ce w' w.heap.size 0 (aF b)/\Ce w' (w.heap.size+1) 0 (aF A)/\Ce w' (w.heap.size+1) 1 (aB st.fn)/\Ce w' A 5 (aB st.p.ln)/\Ce w' A 12 (.slice (some (Ad B 0)) st.r.length cr)/\Ce w' B 0 (.string ⟨st.a0.text.toArray⟩)/\Ce w' B 1 (aB st.a0.at_)/\Ce w' B 2 (aB st.a0.num)/\Ce w' B 3 (aB st.a0.n)) (first|exact⟨e0,e1,e2,e3,e4,e5,e6,e7,e8⟩|exact⟨g0,g1,g2,g3,g4,g5,g6,g7,g8⟩|go_keep) (first|(go_at_call 215;refine o.mono ?_;rintro q J ⟨rfl,F⟩;have H:=aG F;obtain⟨e0,e1,e2,e3,e4,e5,e6,e7,e8⟩:=G _ (aC.of_below F);clear F)|(go_at_call 216;refine(t J H).mono ?_;rintro q w3 ⟨rfl,P⟩;have HQ:=aG P;obtain⟨e0,e1,e2,e3,e4,e5,e6,e7,e8⟩:=G _ ((aC.of_below (S:=aK b) H).trans' P.2 (fun i e=>.inl e));clear P))
 all_goals go_wp2_with fail
 all_goals go_end0
 all_goals exact⟨rfl,HQ.1,(aC.of_below (S:=aK b) Z.drew).trans' ((aC.of_below (S:=aK b) H).trans' HQ.2 (fun i e=>.inl e)) (fun i e=>.inl e)⟩
theorem nh{p:Ph}{h:Nat×Nat}(C:f< 5)(A:p.ln< 6)(B:60<=j):(aE (fc l f p h))[j]?=(aE l)[j]?:=by
 unfold fc
 split
 ·rfl
 ·unfold addAt
  rw[<-eI,<-eI,Array.getElem?_setIfInBounds_ne (by omega),Array.getElem?_setIfInBounds_ne (by omega)]
theorem Ip{m:Nat}(h:cA v m x)(k:Bw v w)(hs:s< x.stmts.length)(ab:v.heap.size<=b)(t:aM w b (aE l))(hl:l.length=104)(c1:w.cell? (Ad d 1)=some (aF m))(K:lz (x.st s))(hk:(x.st s).p.kind=1)(V:(x.st s).p.op=0)(hr:0< (x.st s).r.length):
  Calls Tryz.prog 145 #[aF d,aF b,aB s] w fun q w'=>q=.returned (.tuple #[])/\aM w' b (aE (x.setG l s))/\aC (aK b) w w':=by
 obtain⟨g,c,A,sr,sb,z3,z4,z5,z6,z7,C,D,aa,O,ac⟩:=h.stmO k hs
 have P:A≠b:=by omega
 have o:=t.lt
 have ae:d< w.heap.size:=aD c1
 have ad:m< w.heap.size:=aD z3
 have af:g< w.heap.size:=aD z4
 have a9:=hs
 obtain⟨B,u,rfl,Y,R⟩:=qu D hr
 have Z:B≠b:=by have:=O B rfl;omega
 have W:(x.st s).a0.num< 6:=K.num _ (by unfold Fs.a0;rw[List.getD_eq_getElem?_getD,List.getElem?_eq_getElem hr];exact List.getElem_mem _)
 unfold Rp.setG
 have d2:w.cell? (Ad A 2)=some (aB 1):=by rw[C.cell 2];simp[bK,hk]
 have d6:w.cell? (Ad A 6)=some (aB 0):=by rw[C.cell 6];simp[bK,V]
 have Q:=K.fn
 have X:=K.ln
 have SO:=aG K
 generalize x.st s=st at *
 have a8:=C.lt
 have G:Hid (∀w',aC (aK b) (ek w b A st.fn st.nx st.ins).drew w'->Ce w' w.heap.size 0 (aF b)/\Ce w' (w.heap.size+1) 0 (aF A)/\Ce w' (w.heap.size+1) 1 (aB st.fn)/\Ce w' (w.heap.size+1) 2 (aB st.nx)/\Ce w' (w.heap.size+1) 3 (aB st.ins)/\Ce w' A 12 (.slice (some (Ad B 0)) st.r.length u)/\Ce w' B 0 (.string ⟨st.a0.text.toArray⟩)/\Ce w' B 1 (aB st.a0.at_)/\Ce w' B 2 (aB st.a0.num)/\w'.cell? (Ad B 3)=some (aB st.a0.n)):=fun w' M=>by
  have L:aC (aK b) (ek w b A st.fn st.nx st.ins) w':=⟨M.os,M.tape,M.output,M.size,M.block⟩
  obtain⟨a1,a2,a3,a4,a5,a6⟩:=iS L o C P
  have kw:=(aC.of_below (S:=aK b) (aU w b A st.fn st.nx st.ins)).trans' L (fun i e=>.inl e)
  obtain⟨b1,b2,b3,b4⟩:=R w' (fun j=>kw.cell (p:=Ad B j) Y Z)
  exact⟨a1,a2,a3,a4,a5,a6.cell 12,b1,b2,b3,b4⟩
 obtain⟨g0,g1,g2,g3,g4,g5,g6,g7,g8,g9⟩:=G _ (aC.refl _ _)
 have E:aM (ek w b A st.fn st.nx st.ins).drew b (aE l):=t.below (aU w b A st.fn st.nx st.ins).drew
 have N:aM (ek w b A st.fn st.nx st.ins).drew A (bK st.p (.slice (some (Ad B 0)) st.r.length u) sb):=C.below (aU w b A st.fn st.nx st.ins).drew
 have HD:Hid ((w.alloc (.cells #[aF b] 313)).alloc (.cells #[aF A,aB st.fn,aB st.nx,aB st.ins] 253)=(ek w b A st.fn st.nx st.ins)):=rfl
 obtain⟨y,a7⟩:=aN (aU w b A st.fn st.nx st.ins) (qi (f:=st.fn) (a:=st.a0) E hl Q W)
 have z:Hid (∀J,Below (ek w b A st.fn st.nx st.ins).drew.heap.size (ek w b A st.fn st.nx st.ins).drew J->Ca 214 #[aF b,.agg #[aF A,aB st.fn,aB st.nx,aB st.ins],.agg #[aH (dy l st.fn st.a0).1,aH (dy l st.fn st.a0).2]] J fun r w'=>r=.returned (.tuple #[])/\aM w' b (aE (fc l st.fn st.p (dy l st.fn st.a0)))/\aC (aK b) J w'):=fun J k2=>rT (E.below k2) (N.below k2) hl P Q X
 clear h k C D O R E N t K
 go_in
 go_wp2_with fail
 rw[HD.out]
 go_region_held3 (fun w'=>Ce w' w.heap.size 0 (aF b)/\Ce w' (w.heap.size+1) 0 (aF A)/\Ce w' (w.heap.size+1) 1 (aB st.fn)/\Ce w' (w.heap.size+1) 2 (aB st.nx)/\Ce w' (w.heap.size+1) 3 (aB st.ins)/\Ce w' A 12 (.slice (some (Ad B 0)) st.r.length u)/\Ce w' B 0 (.string ⟨st.a0.text.toArray⟩)/\Ce w' B 1 (aB st.a0.at_)/\Ce w' B 2 (aB st.a0.num)/\Ce w' B 3 (aB st.a0.n)) (first|exact⟨e0,e1,e2,e3,e4,e5,e6,e7,e8,e9⟩|exact⟨g0,g1,g2,g3,g4,g5,g6,g7,g8,g9⟩|go_keep) (first|(go_at_call 215;refine a7.mono ?_;rintro q J ⟨rfl,F⟩;have H:=aG F;obtain⟨e0,e1,e2,e3,e4,e5,e6,e7,e8,e9⟩:=G _ (aC.of_below F);clear F)|(go_at_call 214;refine(z J H).mono ?_;rintro q w3 ⟨rfl,T⟩;have HQ:=aG T;obtain⟨e0,e1,e2,e3,e4,e5,e6,e7,e8,e9⟩:=G _ ((aC.of_below (S:=aK b) H).trans' T.2 (fun i e=>.inl e));clear T))
 all_goals go_wp2_with fail
 all_goals go_end0
 all_goals exact⟨rfl,HQ.1,(aC.of_below (S:=aK b) y.drew).trans' ((aC.of_below (S:=aK b) H).trans' HQ.2 (fun i e=>.inl e)) (fun i e=>.inl e)⟩
theorem EX(h:cA v d x)(k:Bw v w)(hs:s< x.stmts.length)(ab:v.heap.size<=b)(X:aM w b (aE l))(hl:l.length=104)(c1:w.cell? (Ad a 1)=some (aF d))(H:lz (x.st s))(hk:(x.st s).p.kind=2)(h5:(x.st s).a0.num< 5)(hr:0< (x.st s).r.length):
  Calls Tryz.prog 145 #[aF a,aF b,aB s] w fun q w'=>q=.returned (.tuple #[])/\aM w' b (aE (x.loadG l s))/\aC (aK b) w w':=by
 obtain⟨g,c,A,sr,sb,z3,z4,z5,z6,z7,D,E,aa,M,ad⟩:=h.stmO k hs
 have N:A≠b:=by omega
 have W:=X.lt
 have af:a< w.heap.size:=aD c1
 have ae:d< w.heap.size:=aD z3
 have ag:g< w.heap.size:=aD z4
 have a8:=hs
 obtain⟨C,f,rfl,T,O⟩:=qu E hr
 have V:C≠b:=by have:=M C rfl;omega
 have a9:(x.st s).a0.num< 6:=H.num _ (by unfold Fs.a0;rw[List.getD_eq_getElem?_getD,List.getElem?_eq_getElem hr];exact List.getElem_mem _)
 unfold Rp.loadG
 have d2:w.cell? (Ad A 2)=some (aB 2):=by rw[D.cell 2];simp[bK,hk]
 have G:=H.fn
 have F:=H.ln
 have SO:=aG H
 generalize x.st s=st at *
 have a7:=D.lt
 have P:Hid (∀w',aC (aK b) (ek w b A st.fn st.nx st.ins).drew w'->w'.cell? (Ad w.heap.size 0)=some (aF b)/\w'.cell? (Ad (w.heap.size+1) 0)=some (aF A)/\w'.cell? (Ad (w.heap.size+1) 1)=some (aB st.fn)/\w'.cell? (Ad (w.heap.size+1) 2)=some (aB st.nx)/\w'.cell? (Ad (w.heap.size+1) 3)=some (aB st.ins)/\w'.cell? (Ad A 12)=some (.slice (some (Ad C 0)) st.r.length f)/\w'.cell? (Ad C 0)=some (.string ⟨st.a0.text.toArray⟩)/\w'.cell? (Ad C 1)=some (aB st.a0.at_)/\w'.cell? (Ad C 2)=some (aB st.a0.num)/\w'.cell? (Ad C 3)=some (aB st.a0.n)):=fun w' K=>by
  have J:aC (aK b) (ek w b A st.fn st.nx st.ins) w':=⟨K.os,K.tape,K.output,K.size,K.block⟩
  obtain⟨a1,a2,a3,a4,a5,a6⟩:=iS J W D N
  have kw:=(aC.of_below (S:=aK b) (aU w b A st.fn st.nx st.ins)).trans' J (fun i e=>.inl e)
  obtain⟨b1,b2,b3,b4⟩:=O w' (fun j=>kw.cell (p:=Ad C j) T V)
  exact⟨a1,a2,a3,a4,a5,a6.cell 12,b1,b2,b3,b4⟩
 obtain⟨g0,g1,g2,g3,g4,g5,g6,g7,g8,g9⟩:=P _ (aC.refl _ _)
 have B:aM (ek w b A st.fn st.nx st.ins).drew b (aE l):=X.below (aU w b A st.fn st.nx st.ins).drew
 have L:aM (ek w b A st.fn st.nx st.ins).drew A (bK st.p (.slice (some (Ad C 0)) st.r.length f) sb):=D.below (aU w b A st.fn st.nx st.ins).drew
 have HD:Hid ((w.alloc (.cells #[aF b] 313)).alloc (.cells #[aF A,aB st.fn,aB st.nx,aB st.ins] 253)=(ek w b A st.fn st.nx st.ins)):=rfl
 have o:=aG (aU w b A st.fn st.nx st.ins)
 have y:(ek w b A st.fn st.nx st.ins).drew.cell? (Ad b (60+st.a0.num*2))=some (aH (aQ l (30+st.a0.num)).1):=by
  rw[B.cell,show 60+st.a0.num*2=2*(30+st.a0.num)by omega]
  exact bU (by omega)
 have u:(ek w b A st.fn st.nx st.ins).drew.cell? (Ad b (60+st.a0.num*2+1))=some (aH (aQ l (30+st.a0.num)).2):=by
  rw[B.cell,show 60+st.a0.num*2+1=2*(30+st.a0.num)+1 by omega]
  exact bU (by omega)
 have t:Hid (∀Q,Below (ek w b A st.fn st.nx st.ins).drew.heap.size (ek w b A st.fn st.nx st.ins).drew Q->Ca 214 #[aF b,.agg #[aF A,aB st.fn,aB st.nx,aB st.ins],.agg #[aH (aQ l (30+st.a0.num)).1,aH (aQ l (30+st.a0.num)).2]] Q fun r w'=>r=.returned (.tuple #[])/\aM w' b (aE (fc l st.fn st.p (aQ l (30+st.a0.num))))/\aC (aK b) Q w'):=fun Q z=>rT (B.below z) (L.below z) hl N G F
 have m:Hid (∀w':World,aM w' b (aE (fc l st.fn st.p (aQ l (30+st.a0.num))))->w'.cell? (Ad b (60+st.a0.num*2))=some (aH (aQ l (30+st.a0.num)).1)/\w'.cell? (Ad b (60+st.a0.num*2+1))=some (aH (aQ l (30+st.a0.num)).2)):=fun w' hB=>by
  rw[hB.cell,hB.cell,nh G F (by omega),nh G F (by omega),<-B.cell,<-B.cell]
  exact⟨y,u⟩
 have y1:(0:Int)<=st.a0.num:=by omega
 have y2:(st.a0.num:Int)< 5:=by omega
 generalize aQ l (30+st.a0.num)=hv at *
 have ac:b< (ek w b A st.fn st.nx st.ins).drew.heap.size:=B.lt
 clear h k D E M O B L X H
 go_in
 go_wp2_with fail
 rw[HD.out]
 go_region_held3 (fun w'=>w'.cell? (Ad w.heap.size 0)=some (aF b)/\w'.cell? (Ad (w.heap.size+1) 0)=some (aF A)/\w'.cell? (Ad (w.heap.size+1) 1)=some (aB st.fn)/\w'.cell? (Ad (w.heap.size+1) 2)=some (aB st.nx)/\w'.cell? (Ad (w.heap.size+1) 3)=some (aB st.ins)/\w'.cell? (Ad A 12)=some (.slice (some (Ad C 0)) st.r.length f)/\w'.cell? (Ad C 0)=some (.string ⟨st.a0.text.toArray⟩)/\w'.cell? (Ad C 1)=some (aB st.a0.at_)/\w'.cell? (Ad C 2)=some (aB st.a0.num)/\w'.cell? (Ad C 3)=some (aB st.a0.n)/\w'.cell? (Ad b (60+st.a0.num*2))=some (aH hv.1)/\w'.cell? (Ad b (60+st.a0.num*2+1))=some (aH hv.2)) (first|exact⟨e0,e1,e2,e3,e4,e5,e6,e7,e8,e9,Z,Y⟩|exact⟨g0,g1,g2,g3,g4,g5,g6,g7,g8,g9,y,u⟩|go_keep) (first|(go_at_call 214;refine(t _ (Below.refl _ _)).mono ?_;rintro q w3 ⟨rfl,R⟩;have HQ:=aG R;obtain⟨e0,e1,e2,e3,e4,e5,e6,e7,e8,e9⟩:=P _ R.2;obtain⟨Z,Y⟩:=m _ R.1;clear R))
 all_goals go_wp2_with fail
 all_goals go_end0
 all_goals exact⟨rfl,HQ.1,(aC.of_below (S:=aK b) o.drew).trans' HQ.2 (fun i e=>.inl e)⟩
theorem It(h:cA v d x)(k:Bw v w)(N:s< x.stmts.length)(e:v.heap.size<=b)(G:aM w b (aE l))(hl:l.length=104)(t:w.cell? (Ad a 1)=some (aF d))(F:lz (x.st s))(W:(x.st s).p.kind=12)(D:(x.st s).r.length=0):
  Calls Tryz.prog 145 #[aF a,aF b,aB s] w fun q w'=>q=.returned (.tuple #[])/\aM w' b (aE (l))/\aC (aK b) w w':=by
 obtain⟨g,c,A,sr,sb,R,Q,z5,z,y,B,C,Y,J,f⟩:=h.stmO k N
 have T:A≠b:=by omega
 have Z:=G.lt
 have m:a< w.heap.size:=aD t
 have j:d< w.heap.size:=aD R
 have n:g< w.heap.size:=aD Q
 have S:=N
 have d2:w.cell? (Ad A 2)=some (aB 12):=by rw[B.cell 2];simp[bK,W]
 obtain⟨M,P,rfl⟩:=aI C
 have o:w.cell? (Ad A 12)=some (.slice M 0 P):=by rw[B.cell 12];simp[bK,D]
 have X:=F.fn
 have V:=F.ln
 have SO:=aG F
 generalize x.st s=st at *
 have O:=B.lt
 have K:aM (ek w b A st.fn st.nx st.ins).drew b (aE l):=G.below (aU w b A st.fn st.nx st.ins).drew
 have H:aM (ek w b A st.fn st.nx st.ins).drew A (bK st.p (.slice M st.r.length P) sb):=B.below (aU w b A st.fn st.nx st.ins).drew
 have u:Hid ((w.alloc (.cells #[aF b] 313)).alloc (.cells #[aF A,aB st.fn,aB st.nx,aB st.ins] 253)=(ek w b A st.fn st.nx st.ins)):=rfl
 have E:=aG (aU w b A st.fn st.nx st.ins)
 have L:=aG (G.below E)
 clear h k B C J K H G F D
 go_in
 go_wp2_with fail
 rw[u.out]
 go_loopw [227] (fun i wr=>i=aB 0/\wr=ek w b A st.fn st.nx st.ins) (fun _ _=>0)
 case atStart=>exact⟨rfl,rfl⟩
 case round=>
  obtain⟨rfl,rfl⟩:=hrel
  go_wp2_with fail
  go_end0
  exact⟨rfl,L,aC.of_below E⟩
end Go.Proofs.YtajfbbldaiaolaaGreatDoor
