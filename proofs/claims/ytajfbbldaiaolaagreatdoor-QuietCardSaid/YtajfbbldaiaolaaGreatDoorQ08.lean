import Derived.Maps.OwnSet
import Derived.Maps.RangeWalk
import Derived.DeepKeys4
import Derived.Laws.CopyRow
import Derived.Test.YtajfbbldaiaolaaGreatDoorQ07
set_option linter.unusedSimpArgs false
set_option linter.unusedVariables false
set_option maxRecDepth 100000
set_option maxHeartbeats 4000000
namespace Go.Proofs.YtajfbbldaiaolaaGreatDoor
open Go.RowKit Go.Maps Go.Shelf
variable {B a b c d e g j k m n o:Nat}{u v y z:Value}{w:World}
section
theorem ig{w':World}{S:Nat->Prop}{size:Nat}{D:List Value}(h:w.ownsRow B e size v n D)(k:aC S w w')(G:∀i,v.ownBlock=some i->¬S i):w'.ownsRow B e size v n D:=by
 refine⟨h.1,?_⟩
 rcases h.2 with E|⟨g,cap,C,A,hg,F,r⟩
 ·exact .inl E
 ·exact .inr ⟨g,cap,C,A,hg,by rw[k.block g (h.lt g (by rw[A];rfl)).2 (G g (by rw[A];rfl))];exact F,r⟩
theorem EB{w':World}{size:Nat}{p:Option Addr}{E:List Value}(h:w.ownsRow B e size (.slice p n c) n E)(hg:p=some (Ad g 0))(Q:j< n*size)(F:∀A,w.heap[g]?=some (.cells A e (0,0))->w'.heap[g]?=some (.cells (A.setIfInBounds j u) e (0,0))):w'.ownsRow B e size (.slice p n c) n (E.set j u):=by
 refine⟨by rw[List.length_set];exact h.1,?_⟩
 rcases h.2 with⟨P,O⟩|⟨R,cap,A,G,J,H,N,M,L,K⟩
 ·subst O;omega
 ·cases G
  cases hg
  refine .inr ⟨g,c,A.setIfInBounds j u,rfl,J,F A H,N,M,by simpa using L,?_⟩
  rw[<-K,Array.toList_setIfInBounds]
  apply List.ext_getElem?
  intro i
  by_cases D:i< n*size
  ·by_cases e:i=j
   ·subst e
    by_cases C:i< A.toList.length
    ·rw[List.getElem?_take_of_lt D,List.getElem?_set_self C,List.getElem?_set_self (by simp at C⊢;omega)]
    ·rw[List.getElem?_take_of_lt D,List.getElem?_eq_none (by simp at C⊢;omega),List.getElem?_eq_none (by simp at C⊢;omega)]
   ·rw[List.getElem?_take_of_lt D,List.getElem?_set_ne (Ne.symm e),List.getElem?_set_ne (Ne.symm e),List.getElem?_take_of_lt D]
  ·rw[List.getElem?_eq_none (by simp;omega),List.getElem?_eq_none (by simp;omega)]
theorem cZ{size:Nat}{E:List Value}(h:w.ownsRow B e size (.slice (some (Ad g 0)) n c) n E){i:Nat}(A:E[i]?=some v):w.cell? (Ad g i)=some v:=by
 obtain⟨L,G⟩:=h
 rcases G with⟨C,_⟩|⟨N,cap,D,C,M,hg,J,K,H,F⟩
 ·cases C
 ·cases C
  have:D[i]?=some v:=by
   rw[<-F,List.getElem?_take]at A
   split at A
   ·rw[<-A,Array.getElem?_toList]
   ·cases A
  simp only[World.cell?,hg]
  exact this
end
section
structure Mt(κ α:Type)where
 k:TypeId
 R:Value->Option (DataW Unit×List MemPlace)
 kv:κ->Value
 kl:κ->Lit
 ev:α->Value
 ed:α->DataW Unit
 ok:κ->Prop
 oe:α->Prop
structure Mt.Good{κ α:Type}(T:Mt κ α):Prop where
 kd:Keyed Tryz.prog T.k
 key:∀x,T.ok x->keyOf Tryz.prog T.k (T.kv x)=some (T.kl x)
 inj:∀x y,T.ok x->T.ok y->T.kl x=T.kl y->x=y
 lit:∀x,WideAt.IsKeyLit (T.kl x)
 mke:∀a,T.oe a->T.R (T.ev a)=some (T.ed a,[])
 inv:∀v a ps,T.R v=some (T.ed a,ps)->v=T.ev a
structure Mt.Rg{κ α:Type}(T:Mt κ α):Prop where
 all:∀key l,keyOf Tryz.prog T.k key=some l->∃x,T.ok x/\key=T.kv x/\l=T.kl x
 alle:∀v z,T.R v=some z->∃a,T.oe a/\v=T.ev a/\z=(T.ed a,[])
def bI{κ α:Type}(T:Mt κ α)(w:World)(b n:Nat)(f:κ->Option α):Prop:=
 ∃D:DataW Unit,w.ownsMap Tryz.prog T.k T.R b n D/\(∀x,T.ok x->has D (T.kl x)=(f x).isSome)/\∀x a,T.ok x->f x=some a->T.oe a/\∀z,D.atKey (T.kl x) z=T.ed a
section
variable {κ α:Type} {T:Mt κ α} {w:World} {b n:Nat} {f:κ->Option α}
theorem bI.made(T:Mt κ α)(w:World):bI T (w.alloc (.map #[] 0)) w.heap.size 0 (fun _=>none):=⟨.map [],World.ownsMap_made w _ _ _,fun _ _=>rfl,fun _ _ _ h=>by cases h⟩
theorem bI.lt(h:bI T w b n f):b< w.heap.size:=by obtain⟨D,h,_⟩:=h;exact h.lt
theorem bI.mono(h:bI T w b n f)(A:n<=m):bI T w b m f:=by obtain⟨D,h,k⟩:=h;exact⟨D,h.mono A,k⟩
theorem bI.blk{w':World}(h:bI T w b n f)(e:w'.heap[b]?=w.heap[b]?):bI T w' b n f:=by
 obtain⟨D,⟨C,c,B,A⟩,k⟩:=h
 exact⟨D,⟨C,c,by rw[e];exact B,A⟩,k⟩
theorem bI.below{w':World}(h:bI T w b n f)(k:Below B w w')(A:b< B):bI T w' b n f:=h.blk (k.block b A)
theorem bI.get(h:bI T w b n f)(G:T.Good){t e:TypeId}(K:Tryz.prog.underlying t=some (.map T.k e))(J:(zeroValue e).run Tryz.prog w=.ok z w){zd:DataW Unit}(L:T.R z=some (zd,[]))(M:∀v E,T.R v=some (zd,E)->v=z)(x:κ)(B:T.ok x):
  (Instr.lookup t (.map (some b)) (T.kv x) true).run Tryz.prog w=.ok (.tuple #[((f x).map T.ev).getD z,.bool (f x).isSome]) w:=by
 obtain⟨D,O,H,N⟩:=h
 obtain⟨v,E,A,C⟩:=O.look_ok G.kd K J L (G.key x B)
 rw[A,H x B]
 cases F:f x with
 |none=>
  rw[atKey_of_not_has (by rw[H x B,F];rfl)]at C
  rw[M _ _ C];rfl
 |some a=>
  rw[(N _ a B F).2]at C
  rw[G.inv _ _ _ C];rfl
theorem bI.look(h:bI T w b n f)(G:T.Good){t e:TypeId}(M:Tryz.prog.underlying t=some (.map T.k e))(L:(zeroValue e).run Tryz.prog w=.ok z w)(x:κ)(C:T.ok x):
  (Instr.lookup t (.map (some b)) (T.kv x) false).run Tryz.prog w=.ok (((f x).map T.ev).getD z) w:=by
 obtain⟨D,⟨R,c,N,F,_,rfl⟩,K,O⟩:=h
 rcases Maps.fit_look false G.kd M L N F (G.key x C)with⟨A,_,B⟩|⟨S,y,_,_,A,H,B,_⟩
 ·have:=K x C
  rw[Maps.has_false_of_atKey B]at this
  cases E:f x with
  |none=>rw[A];rfl
  |some a=>rw[E]at this;cases this
 ·have:=K x C
  rw[Maps.has_true_of_atKey B]at this
  cases E:f x with
  |none=>rw[E]at this;cases this
  |some a=>
   have J:=(O x a C E).2 (T.ed a)
   rw[B]at J
   obtain⟨Q,P⟩:=y
   simp only at J
   subst J
   rw[A,G.inv _ _ _ H];rfl
theorem bI.put(h:bI T w b n f)(G:T.Good){t e:TypeId}(K:Tryz.prog.underlying t=some (.map T.k e))(O:n<=1000000)(x:κ)(E:T.ok x)(a:α)(H:T.oe a)[DecidableEq κ]:
  ∃w',(Instr.mapUpdate t (.map (some b)) (T.kv x) (T.ev a)).run Tryz.prog w=.ok () w'/\bI T w' b (n+1) (fun y=>if y=x then some a else f y)/\w.mapTurned w' b:=by
 obtain⟨D,F,N,J⟩:=h
 obtain⟨w',C,M,L⟩:=F.store G.kd K (by unfold maxLen;omega) (G.key x E) (G.mke a H)
 refine⟨w',C,⟨_,M,fun y A=>?_,fun y c A B=>?_⟩,L⟩<;>try simp only at B
 ·by_cases e:y=x
  ·subst e;rw[has_put_same F.isMap (G.lit _)];simp
  ·rw[has_put_other (fun h=>e (G.inj _ _ A E h)),N y A];simp[e]
 ·by_cases e:y=x
  ·subst e;rw[if_pos rfl]at B;cases B;exact⟨H,fun z=>atKey_put_same F.isMap (G.lit _) _ _⟩
  ·rw[if_neg e]at B;exact⟨(J _ _ A B).1,fun z=>by rw[atKey_put_other (fun h=>e (G.inj _ _ A E h))];exact(J _ _ A B).2 _⟩
theorem bI.del(h:bI T w b n f)(G:T.Good){t e:TypeId}(H:Tryz.prog.underlying t=some (.map T.k e))(x:κ)(E:T.ok x)(ty:TypeId)[DecidableEq κ]:
  ∃w',(Builtin.delete_ #[t,T.k] ty #[.map (some b),T.kv x]).run Tryz.prog w=.ok (.tuple #[]) w'/\bI T w' b n (fun y=>if y=x then none else f y)/\w.mapTurned w' b:=by
 obtain⟨D,M,L,F⟩:=h
 obtain⟨w',C,K,J⟩:=M.drop G.kd H (G.key x E) ty
 refine⟨w',C,⟨_,K,fun y A=>?_,fun y c A B=>?_⟩,J⟩<;>try simp only at B
 ·by_cases e:y=x
  ·subst e;rw[has_del_same];simp
  ·rw[has_del_other (fun h=>e (G.inj _ _ A E h)),L y A];simp[e]
 ·by_cases e:y=x
  ·subst e;rw[if_pos rfl]at B;cases B
  ·rw[if_neg e]at B;exact⟨(F _ _ A B).1,fun z=>by rw[atKey_del_other (fun h=>e (G.inj _ _ A E h))];exact(F _ _ A B).2 _⟩
theorem bI.clone(h:bI T w b n f):∃A c,w.heap[b]?=some (.map A c)/\bI T (w.alloc (.map A c)) w.heap.size n f:=by
 obtain⟨D,⟨A,c,C,B⟩,k⟩:=h
 exact⟨A,c,C,D,⟨A,c,heap_alloc_new _ _,B⟩,k⟩
end
end
section
abbrev gu(x:Int):Prop:=(Lit.int .i64 x).wf=true
theorem yr(w:World):(zeroValue 3).run Tryz.prog w=.ok (aB 0) w:=by kernel_rfl
def oO(v:Value):Option (DataW Unit×List MemPlace):=match v with
 |.int .i64 a=>if(Lit.int .i64 a).wf=true then some (.lit (.int .i64 a),[])else none
 |_=>none
theorem hH{z:DataW Unit×List MemPlace}(h:oO v=some z):∃a,gu a/\v=aB a/\z=(.lit (.int .i64 a),[]):=by
 unfold oO at h
 split at h
 ·split at h
  ·cases h;exact⟨_,‹_›,rfl,rfl⟩
  ·cases h
 ·cases h
def km:Mt Int Int:=⟨3,oO,.int .i64,.int .i64,.int .i64,fun a=>.lit (.int .i64 a),gu,gu⟩
theorem gh:km.Good where
 kd:=int_keyed Tryz.underlying3
 key:=fun x A=>keyOf_int_mk Tryz.underlying3 A
 inj:=fun x y _ _ h=>by cases h;rfl
 lit:=fun _=>trivial
 mke:=fun a B=>if_pos B
 inv:=fun v a C h=>by obtain⟨c,_,rfl,e⟩:=hH h;cases e;rfl
theorem tD:km.Rg where
 all:=fun A l h=>by obtain⟨x,E,D,C⟩:=keyOf_int_inv Tryz.underlying3 h;exact⟨x,C,E,D⟩
 alle:=fun v z h=>by obtain⟨c,B,rfl,e⟩:=hH h;exact⟨c,B,rfl,e⟩
def xa(v:Value):Option (DataW Unit×List MemPlace):=match v with
 |.map (some b)=>some (.lit (.int .i64 b),[])
 |_=>none
def lU:Mt Int Nat:=⟨3,xa,.int .i64,.int .i64,fun b=>.map (some b),fun b=>.lit (.int .i64 b),gu,fun _=>True⟩
theorem uK{z:DataW Unit×List MemPlace}(h:xa v=some z):∃b:Nat,v=.map (some b)/\z=(.lit (.int .i64 b),[]):=by
 unfold xa at h
 split at h
 ·cases h;exact⟨_,rfl,rfl⟩
 ·cases h
theorem iP:lU.Good where
 kd:=int_keyed Tryz.underlying3
 key:=fun x A=>keyOf_int_mk Tryz.underlying3 A
 inj:=fun x y _ _ h=>by cases h;rfl
 lit:=fun _=>trivial
 mke:=fun a _=>rfl
 inv:=fun v a B h=>by obtain⟨b,rfl,e⟩:=uK h;simp[lU]at e;rw[Int.ofNat.inj e.1];rfl
theorem sL:lU.Rg where
 all:=fun A l h=>by obtain⟨x,D,C,B⟩:=keyOf_int_inv Tryz.underlying3 h;exact⟨x,B,D,C⟩
 alle:=fun v z h=>by obtain⟨c,rfl,e⟩:=uK h;exact⟨c,trivial,rfl,e⟩
def kI(l:List Int):List Lit:=l.map (.int .i64)
def kA(l:List Int):Value:=.agg (l.map (Value.int .i64)).toArray
theorem KQ:∃m,Tryz.prog.types.size=m+1:=⟨Tryz.prog.types.size-1,by kernel_rfl⟩
theorem cI:Tryz.prog.cellsOf 3=1:=by kernel_rfl
theorem xy{x y:List Int}(h:kA x=kA y):x=y:=by
 unfold kA at h
 have:=congrArg Array.toList (Value.agg.inj h)
 simp only at this
 exact(List.map_inj_right (fun a b h=>by cases h;rfl)).1 this
theorem Gt:Tryz.prog.cellsOf 206=2:=by kernel_rfl
theorem Kq:Tryz.prog.keyType 206=true:=by kernel_rfl
theorem tB{a b:Int}(B:gu a)(A:gu b):keyOf Tryz.prog 206 (kA [a,b])=some (.string (keyBytes (kI [a,b]))):=by
 obtain⟨m,C⟩:=KQ
 unfold keyOf kA
 simp only[Tryz.underlying206]
 rw[if_pos (by simp[Kq,Value.formed,Tryz.underlying206,Gt]),C]
 unfold Program.keyLits
 simp only[Tryz.underlying206,Value.cells]
 rw[if_pos ⟨by simp[Gt],by simp⟩]
 simp only[List.mapM_cons,List.mapM_nil]
 have B:(Lit.int .i64 a).wf=true:=B
 have A:(Lit.int .i64 b).wf=true:=A
 simp[Program.keyLits,cI,B,A,kI]
theorem vk:Keyed Tryz.prog 206:=Keyed.of_law (deep_law (m:=2) (by decide) (by kernel_rfl) (by kernel_rfl) (by kernel_rfl))
theorem vm{x y:List Int}{l:Lit}(B:keyOf Tryz.prog 206 (kA x)=some l)(A:keyOf Tryz.prog 206 (kA y)=some l):x=y:=xy (keyOf_inj_deep (m:=2) (by kernel_rfl) (by kernel_rfl) B A)
theorem xN:Tryz.prog.cellsOf 263=5:=by kernel_rfl
theorem Ij:Tryz.prog.keyType 263=true:=by kernel_rfl
theorem pW{a b c d e:Int}(E:gu a)(D:gu b)(C:gu c)(B:gu d)(A:gu e):keyOf Tryz.prog 263 (kA [a,b,c,d,e])=some (.string (keyBytes (kI [a,b,c,d,e]))):=by
 obtain⟨m,F⟩:=KQ
 unfold keyOf kA
 simp only[Tryz.underlying263]
 rw[if_pos (by simp[Ij,Value.formed,Tryz.underlying263,xN]),F]
 unfold Program.keyLits
 simp only[Tryz.underlying263,Value.cells]
 rw[if_pos ⟨by simp[xN],by simp⟩]
 simp only[List.mapM_cons,List.mapM_nil]
 have E:(Lit.int .i64 a).wf=true:=E
 have D:(Lit.int .i64 b).wf=true:=D
 have C:(Lit.int .i64 c).wf=true:=C
 have B:(Lit.int .i64 d).wf=true:=B
 have A:(Lit.int .i64 e).wf=true:=A
 simp[Program.keyLits,cI,E,D,C,B,A,kI]
theorem tr:Keyed Tryz.prog 263:=Keyed.of_law (deep_law (m:=2) (by decide) (by kernel_rfl) (by kernel_rfl) (by kernel_rfl))
theorem tx{x y:List Int}{l:Lit}(B:keyOf Tryz.prog 263 (kA x)=some l)(A:keyOf Tryz.prog 263 (kA y)=some l):x=y:=xy (keyOf_inj_deep (m:=2) (by kernel_rfl) (by kernel_rfl) B A)
theorem Gs:Tryz.prog.cellsOf 90=2:=by kernel_rfl
theorem Ko:Tryz.prog.keyType 90=true:=by kernel_rfl
theorem tA{a b:Int}(B:gu a)(A:gu b):keyOf Tryz.prog 90 (kA [a,b])=some (.string (keyBytes (kI [a,b]))):=by
 obtain⟨m,C⟩:=KQ
 unfold keyOf kA
 simp only[Tryz.underlying90]
 rw[if_pos (by simp[Ko,Value.formed,Tryz.underlying90,Gs]),C]
 unfold Program.keyLits
 simp only[Tryz.underlying90,Value.cells]
 rw[if_pos ⟨by simp[Gs],by simp⟩]
 simp only[List.mapM_cons,List.mapM_nil]
 have B:(Lit.int .i64 a).wf=true:=B
 have A:(Lit.int .i64 b).wf=true:=A
 simp[Program.keyLits,cI,B,A,kI]
theorem oq:Keyed Tryz.prog 90:=Keyed.of_law (deep_law (m:=2) (by decide) (by kernel_rfl) (by kernel_rfl) (by kernel_rfl))
theorem vj{x y:List Int}{l:Lit}(B:keyOf Tryz.prog 90 (kA x)=some l)(A:keyOf Tryz.prog 90 (kA y)=some l):x=y:=xy (keyOf_inj_deep (m:=2) (by kernel_rfl) (by kernel_rfl) B A)
end
theorem mw{bt:Nat}{pf:Option Addr}(h:w.cell? (Ad bt 0)=some (.slice pf n c)):
  Calls Tryz.prog 106 #[aF bt] w (Ru w (.bool (decide (n=0)))):=by
 go_in
 go_wp2_with fail
 go_ret
 refine⟨?_,rfl⟩
 by_cases e:n=0
 ·simp[e]
 ·have:((n:Int)==0)=false:=by simp;omega
  simp[e,this]
theorem yt(h:n< 1000000):IntKind.i64.wrap (n:Int)=n:=by
 unfold IntKind.wrap
 simp[IntKind.signed,IntKind.bits]
 omega
theorem sw{bt:Nat}(h:w.cell? (Ad bt 0)=some (.slice (some (Ad g 0)) (n+1) c))(A:n< 1000):
  Calls Tryz.prog 107 #[aF bt] w fun r w'=>r=.returned (Pt g (n*7))/\∃m,w'=w.drewN m:=by
 have D:IntKind.i64.wrap (n:Int)=n:=yt (by omega)
 have C:(0:Int)<=n:=by omega
 have B:(n:Int)< (n:Int)+1:=by omega
 go_in
 go_wp2_with fail
 go_region
 all_goals go_wp2_with fail
 all_goals go_ret
 all_goals exact⟨rfl,1,rfl⟩
def vT:Nat->TypeId
 |1=>443
 |2=>254
 |_=>148
def vI(v:Nat×Int):Value:=.iface (vT v.1) (.int .i64 v.2)
theorem Jv{bt:Nat}{t:ByteArray}{x y z:Int}(B:t.toList.isEmpty=true):
  Calls Tryz.prog 108 #[aF bt,.agg #[.string t,aB x,aB y,aB z]] w (Rt w (vI (0,z))):=by
 unfold vI vT
 have A:Hid (Bw w (w.alloc (.cells #[.string t,aB x,aB y,aB z] 258))):=ba _ _
 go_in
 go_wp2_with fail
 go_ret
 exact⟨rfl,A⟩
theorem Ju{bt:Nat}{t:ByteArray}{x z:Int}(N:t.toList.isEmpty=false)(h:w.cell? (Ad bt 0)=some (.slice (some (Ad g 0)) (n+1) c))(E:n< 1000)(O:k< 6)(C:w.cell? (Ad g (n*7+1+k))=some v):
  Calls Tryz.prog 108 #[aF bt,.agg #[.string t,aB x,aB k,aB z]] w (Rt w v):=by
 have P:=aD h
 have hg:=aD C
 obtain⟨D,B⟩:=bM (w.alloc (.cells #[.string t,aB x,aB k,aB z] 258))
 have A:Bw w D:=by rw[B];exact ba _ _
 have F:Hid (∀k,Ca 107 #[aF bt] (D.drewN k) fun r w'=>r=.returned (Pt g (n*7))/\∃m,w'=(D.drewN k).drewN m):=fun k=>sw (bc (aR A k) h) E
 have M:D.cell? (Ad w.heap.size 2)=some (aB k):=by rw[B];exact(aM.new w _ _).cell 2
 have L:D.cell? (Ad g (n*7+1+k))=some v:=bc A C
 have K:(0:Int)<=k:=by omega
 have J:(k:Int)< 6:=by omega
 obtain⟨H,G⟩:=aN B A
 clear B A h C
 go_in
 go_wp2_with fail
 rw[<-H.out]
 go_quiet ((go_at_call 107;exact Calls.quiet_of (F _)))
 go_wp2_with fail
 go_ret
 exact⟨rfl,aR G _⟩
theorem JG{bt:Nat}{t:ByteArray}{x y:Int}{v:Nat×Int}(B:t.toList.isEmpty=true):
  Calls Tryz.prog 171 #[aF bt,.agg #[.string t,aB x,aB y],vI v] w (Rt w (.tuple #[])):=by
 have A:Hid (Bw w (w.alloc (.cells #[.string t,aB x,aB y] 119))):=ba _ _
 unfold vI
 go_in
 go_wp2_with fail
 go_end0
 exact⟨rfl,A⟩
theorem JF{bt:Nat}{t:ByteArray}{x:Int}{v:Nat×Int}(S:t.toList.isEmpty=false)(h:w.cell? (Ad bt 0)=some (.slice (some (Ad g 0)) (n+1) c))(J:n< 1000)(V:k< 6)(C:w.cell? (Ad g (n*7+1+k))=some u)(E:w.frozen? (Ad g (n*7+1+k))=false):
  Calls Tryz.prog 171 #[aF bt,.agg #[.string t,aB x,aB k],vI v] w fun r w'=>r=.returned (.tuple #[])/\∃W m,Bw w W/\w'=(W.setCell ⟨g,n*7+1+k,none⟩ (vI v)).drewN m:=by
 have X:=aD h
 have hg:=aD C
 obtain⟨D,B⟩:=bM (w.alloc (.cells #[.string t,aB x,aB k] 119))
 have A:Bw w D:=by rw[B];exact ba _ _
 have K:Hid (∀k,Ca 107 #[aF bt] (D.drewN k) fun r w'=>r=.returned (Pt g (n*7))/\∃m,w'=(D.drewN k).drewN m):=fun k=>sw (bc (aR A k) h) J
 have H:D.cell? (Ad w.heap.size 2)=some (aB k):=by rw[B];exact(aM.new w _ _).cell 2
 have R:D.cell? (Ad g (n*7+1+k))=some u:=bc A C
 have Q:D.frozen? (Ad g (n*7+1+k))=false:=by rw[A.frozen (p:=Ad g (n*7+1+k)) hg];exact E
 have P:(0:Int)<=k:=by omega
 have O:(k:Int)< 6:=by omega
 have F:¬g=w.heap.size:=by have:g< w.heap.size:=hg;omega
 have N:¬w.heap.size=g:=fun e=>F e.symm
 obtain⟨M,L⟩:=aN B A
 unfold vI
 clear B A h C E
 go_in
 go_wp2_with fail
 rw[<-M.out]
 go_region_held3 (fun w'=>w'.cell? (Ad w.heap.size 2)=some (aB k)) (first|exact H|go_keep) (first|(go_at_call 107;refine(K 1).mono ?_;rintro q G ⟨rfl,m,T⟩;subst G))
 all_goals go_wp2_with fail
 all_goals go_end0
 all_goals exact⟨rfl,_,_,L,rfl⟩
abbrev Vl:=Nat×Int
structure Fm where
 pl:Int:=0
 lo:List Vl:=[]
def qM(f:Fm):List Value:=.int .i64 f.pl::f.lo.map vI
def eX(l:List Fm):List Value:=l.flatMap qM
def wu(l:List Fm):Prop:=∀f∈l,f.lo.length=6
def cJ(fs:List Fm):Fm:=fs.getLastD {}
def aZ(fs:List Fm)(f:Fm):List Fm:=fs.set (fs.length-1) f
def cD(f:Fm)(a:Pa):Vl:=if a.text.isEmpty then(0,(a.n:Int))else f.lo.getD a.num (0,0)
def oY(f:Fm)(p:Ph)(v:Vl):Fm:=if p.lt.isEmpty then f else{f with lo:=f.lo.set p.ln v}
theorem lK{f:Fm}(h:f.lo.length=6):(qM f).length=7:=by simp[qM,h]
theorem Fi:∀{l:List Fm},wu l->(eX l).length=l.length*7:=by
 intro l
 induction l with
 |nil=>intro _;rfl
 |cons a l ih=>intro h;have:=ih (fun f A=>h f (by simp[A]));have:=lK (h a (by simp));simp[eX]at *;omega
theorem tF:∀{l:List Fm} {n j:Nat} {f:Fm},wu l->l[n]?=some f->j< 7->(eX l)[n*7+j]?=(qM f)[j]?:=by
 intro l
 induction l with
 |nil=>intro n j f _ h;simp at h
 |cons a l ih=>
  intro n j f A h C
  have B:=lK (A a (by simp))
  have e:eX (a::l)=qM a++eX l:=rfl
  rw[e]
  cases n with
  |zero=>simp at h;subst h;rw[List.getElem?_append_left (by omega)];simp
  |succ n=>rw[List.getElem?_append_right (by omega),B,show(n+1)*7+j-7=n*7+j by omega];exact ih (fun f D=>A f (by simp[D])) (by simpa using h) C
theorem Fg:∀{l:List Fm} {n j:Nat} {f A:Fm} {v:Value},wu l->l[n]?=some f->j< 7->(qM f).set j v=qM A->(eX l).set (n*7+j) v=eX (l.set n A):=by
 intro l
 induction l with
 |nil=>intro n j f A v _ h;simp at h
 |cons a l ih=>
  intro n j f A v B h E C
  have D:=lK (B a (by simp))
  have e:eX (a::l)=qM a++eX l:=rfl
  rw[e]
  cases n with
  |zero=>simp at h;subst h;rw[List.set_append_left _ _ (by omega)];simp[eX,<-C]
  |succ n=>
   rw[List.set_append_right _ _ (by omega),D,show(n+1)*7+j-7=n*7+j by omega,ih (fun f F=>B f (by simp[F])) (by simpa using h) E C]
   rfl
theorem kF{l:List Fm}(h:l≠[]):l[l.length-1]?=some (cJ l):=by
 unfold cJ
 rw[List.getLastD_eq_getLast?,<-List.getLast?_eq_getElem?]
 cases e:l.getLast? with
 |none=>rw[List.getLast?_eq_none_iff]at e;exact absurd e h
 |some x=>rfl
theorem lD{l:List Fm}(h:l≠[]):cJ l∈l:=List.mem_of_getElem? (kF h)
theorem zk{l:List Fm}(h:wu l){f:Fm}(B:f.lo.length=6):wu (aZ l f):=fun x A=>by
 rcases List.mem_or_eq_of_mem_set A with A|rfl
 ·exact h x A
 ·exact B
structure cN(w:World)(B bt:Nat)(fv:Value)(t:List Fm):Prop where
 ok:wu t
 hd:w.heap[bt]?=some (.cells #[fv] 201 (0,0))
 row:w.ownsRow B 197 7 fv t.length (eX t)
 len:t.length<=6
def aT(v:Value)(i:Nat):Prop:=v.ownBlock=some i
theorem cN.cell{bt:Nat}{t:List Fm}(h:cN w B bt y t):w.cell? (Ad bt 0)=some y:=(aA h.hd).cell 0
theorem cN.kept{S:Nat->Prop}{w':World}{bt:Nat}{t:List Fm}(h:cN w B bt y t)(k:aC S w w')(A:¬S bt)(C:∀i,y.ownBlock=some i->¬S i):cN w' B bt y t:=
 ⟨h.ok,(k.block bt (aA h.hd).lt A).trans h.hd,ig h.row k C,h.len⟩
theorem cN.below{w':World}{bt:Nat}{t:List Fm}(h:cN w B bt y t)(k:Bw w w'):cN w' B bt y t:=h.kept (aC.of_below (S:=fun _=>False) k) (fun h=>h) (fun _ _ h=>h)
theorem xk{size:Nat}{C:List Value}(h:w.ownsRow B e size (.slice (some (Ad g 0)) n c) n C)(i:Nat):w.frozen? (Ad g i)=false:=by
 rcases h.2 with⟨A,_⟩|⟨F,cap,D,A,E,hg,_⟩
 ·cases A
 ·cases A;exact(aA hg).fz i
theorem DN{bt:Nat}{t:List Fm}{a:Pa}(h:cN w B bt y t)(A:t≠[])(F:a.num< 6):
  Ca 108 #[aF bt,.agg #[.string ⟨a.text.toArray⟩,aB a.at_,aB a.num,aB a.n]] w (Rt w (vI (cD (cJ t) a))):=by
 unfold cD
 cases e:a.text.isEmpty with
 |true=>rw[if_pos rfl];exact Jv (by simpa using e)
 |false=>
  rw[if_neg (by decide)]
  obtain⟨n,E⟩:∃n,t.length=n+1:=⟨t.length-1,by have:=List.length_pos_iff.2 A;omega⟩
  have C:=h.row
  have G:=h.cell
  rw[E]at C
  obtain⟨g,c,rfl⟩:=aO C (by omega)
  have D:=kF A
  rw[E,Nat.add_sub_cancel]at D
  have H:=h.ok _ (lD A)
  refine Ju (by simpa using e) G (by have:=h.len;omega) F (cZ C ?_)
  rw[Nat.add_assoc,tF h.ok D (by omega)]
  simp[qM,Nat.add_comm 1,List.getD_eq_getElem?_getD,List.getElem?_eq_getElem (show a.num< (cJ t).lo.length by omega)]
theorem uD{t:List Fm}(h:t≠[]):aZ t (cJ t)=t:=by
 unfold aZ
 have:=kF h
 obtain⟨A,e⟩:=List.getElem?_eq_some_iff.1 this
 rw[<-e]
 exact List.set_getElem_self A
theorem cN.put{w' W:World}{bt:Nat}{t:List Fm}{f:Fm}(h:cN w B bt (.slice (some (Ad g 0)) (n+1) c) t)(C:t.length=n+1)(N:j< 7)(O:f.lo.length=6)(P:(qM (cJ t)).set j u=qM f)(K:Bw w W)(e:w'=(W.setCell ⟨g,n*7+j,none⟩ u).drewN m):cN w' B bt (.slice (some (Ad g 0)) (n+1) c) (aZ t f)/\aC (aT (.slice (some (Ad g 0)) (n+1) c)) w w':=by
 have F:t≠[]:=by intro e;subst e;cases C
 have M:=kF F
 rw[C,Nat.add_sub_cancel]at M
 have D:=h.below K
 have E:=D.row
 rw[C]at E
 have G:g≠bt:=fun e=>by
  subst e
  rcases E.2 with⟨H,_⟩|⟨S,cap,J,H,R,hg,_⟩
  ·cases H
  ·cases H;rw[D.hd]at hg;simp at hg
 have L:aC (aT (.slice (some (Ad g 0)) (n+1) c)) W w':=by
  have:=(aC.refl (aT (.slice (some (Ad g 0)) (n+1) c)) W).setCell (p:=Ad g (n*7+j)) (.inl rfl) u
  rw[e]
  exact⟨this.os,this.tape,this.output,this.size,this.block⟩
 have A:(aZ t f).length=n+1:=by simp[aZ,C]
 refine⟨⟨zk h.ok O,(L.block bt (aA D.hd).lt (fun e=>G (by cases e;rfl))).trans D.hd,?_,by rw[A,<-C];exact h.len⟩,(aC.of_below K).trans L⟩
 rw[A,show eX (aZ t f)=(eX t).set (n*7+j) u from(by rw[Fg h.ok M N P];unfold aZ;rw[C,Nat.add_sub_cancel])]
 refine EB E rfl (by omega) (fun J Q=>?_)
 rw[e]
 exact heap_setCell Q _ _
theorem GF{bt:Nat}{t:List Fm}{p:Ph}{v:Vl}(h:cN w B bt y t)(A:t≠[])(J:p.ln< 6):
  Ca 171 #[aF bt,.agg #[.string ⟨p.lt.toArray⟩,aB p.la,aB p.ln],vI v] w fun r w'=>r=.returned (.tuple #[])/\cN w' B bt y (aZ t (oY (cJ t) p v))/\aC (aT y) w w':=by
 unfold oY
 cases e:p.lt.isEmpty with
 |true=>
  rw[if_pos rfl,uD A]
  refine(JG (by simpa using e)).mono ?_
  rintro r w' ⟨rfl,F⟩
  exact⟨rfl,h.below F,aC.of_below F⟩
 |false=>
  rw[if_neg (by decide)]
  obtain⟨n,D⟩:∃n,t.length=n+1:=⟨t.length-1,by have:=List.length_pos_iff.2 A;omega⟩
  have C:=h.row
  have L:=h.cell
  rw[D]at C
  obtain⟨g,c,rfl⟩:=aO C (by omega)
  have E:=kF A
  rw[D,Nat.add_sub_cancel]at E
  have K:=h.ok _ (lD A)
  have H:(eX t)[n*7+1+p.ln]?=some (vI ((cJ t).lo.getD p.ln (0,0))):=by
   rw[Nat.add_assoc,tF h.ok E (by omega)]
   simp[qM,Nat.add_comm 1,List.getD_eq_getElem?_getD,List.getElem?_eq_getElem (show p.ln< (cJ t).lo.length by omega)]
  refine(JF (by simpa using e) L (by have:=h.len;omega) J (cZ C H) (xk C _)).mono ?_
  rintro r w' ⟨rfl,W,m,G,e⟩
  rw[Nat.add_assoc]at e
  exact⟨rfl,h.put D (by omega) (by simp[K]) (by simp[qM,Nat.add_comm 1,List.map_set]) G e⟩
section
structure AG(w:World)(B bs:Nat)(p:Ph)(r:List Pa):Prop where
 lt:bs< B
 ex:∃sr sb,aM w bs (bK p sr sb)/\w.ownsRow 0 258 4 sr r.length (eF r)/\∀i,aT sr i->i< B
theorem AG.kept{S:Nat->Prop}{w':World}{p:Ph}{r:List Pa}(h:AG w B a p r)(k:aC S w w')(A:∀i,S i->B<=i):AG w' B a p r:=by
 obtain⟨sr,sb,F,E,C⟩:=h.ex
 have:=h.lt
 exact⟨h.lt,sr,sb,F.kept k (fun e=>by have:=A _ e;omega),ig E k (fun i e D=>by have:=C i e;have:=A i D;omega),C⟩
structure Tu where
 th:Int:=0
 kd:Int:=0
 pl:Int:=0
 ob:Int:=-1
 fd:Int:=0
 vl:Vl:=(0,0)
 en:Bool:=false
def lQ(bm bt:Nat)(q:Value)(fn nx ins:Int)(e:Tu):Array Value:=#[aF bm,aF bt,q,.int .i64 fn,.int .i64 nx,.int .i64 ins,.int .i64 e.th,.int .i64 e.kd,.int .i64 e.pl,.int .i64 e.ob,.int .i64 e.fd,vI e.vl,.bool e.en]
theorem jH{r:List Pa}{a:Pa}(h:r[0]?=some a)(j:Nat)(A:j< 4):(eF r)[j]?=(oK a)[j]?:=by
 cases r with
 |nil=>simp at h
 |cons b r=>simp at h;subst h;exact List.getElem?_append_left (by simp[oK];omega)
theorem mr{bt f:Nat}{Z nx ins:Int}{e:Tu}{t:List Fm}{p:Ph}{r:List Pa}{a:Pa}(F:aM w b (lQ d bt (aF f) Z nx ins e))(M:AG w B f p r)(O:cN w B bt y t)(G:t≠[])(D:r[0]?=some a)(Y:a.num< 6):
  Calls Tryz.prog 245 #[aF b] w (Rt w (vI (cD (cJ t) a))):=by
 obtain⟨sr,sb,P,C,-⟩:=M.ex
 obtain⟨n,X⟩:∃n,r.length=n+1:=⟨r.length-1,by have:=(List.getElem?_eq_some_iff.1 D).1;omega⟩
 rw[X]at C
 obtain⟨A,c,rfl⟩:=aO C (by omega)
 have J:Ce w b 1 (aF bt):=F.cell 1
 have Q:Ce w b 2 (aF f):=F.cell 2
 have H:Ce w f 12 (.slice (some (Ad A 0)) (n+1) c):=P.cell 12
 have a0:Ce w A 0 (.string ⟨a.text.toArray⟩):=cZ C (jH D 0 (by omega))
 have T:Ce w A 1 (aB a.at_):=cZ C (jH D 1 (by omega))
 have S:Ce w A 2 (aB a.num):=cZ C (jH D 2 (by omega))
 have R:Ce w A 3 (aB a.n):=cZ C (jH D 3 (by omega))
 have s:Hid (∀W,Bw w W->Ca 108 #[aF bt,.agg #[.string ⟨a.text.toArray⟩,aB a.at_,aB a.num,aB a.n]] W (Rt W (vI (cD (cJ t) a)))):=fun W k=>DN (O.below k) G Y
 generalize vI (cD (cJ t) a)=v at *
 have V:(0:Int)< (n:Int)+1:=by omega
 have z:=aD J
 have x:=aD H
 have u:=aD a0
 have K:Hid (∀W,Bw w W->Ce W b 1 (aF bt)/\Ce W b 2 (aF f)/\Ce W f 12 (.slice (some (Ad A 0)) (n+1) c)/\Ce W A 0 (.string ⟨a.text.toArray⟩)/\Ce W A 1 (aB a.at_)/\Ce W A 2 (aB a.num)/\Ce W A 3 (aB a.n)):=fun W k=>⟨bc k J,bc k Q,bc k H,bc k a0,bc k T,bc k S,bc k R⟩
 clear F M O P C
 go_in
 go_wp2_with fail
 go_region_held3 (fun W=>Ce W b 1 (aF bt)/\Ce W b 2 (aF f)/\Ce W f 12 (.slice (some (Ad A 0)) (n+1) c)/\Ce W A 0 (.string ⟨a.text.toArray⟩)/\Ce W A 1 (aB a.at_)/\Ce W A 2 (aB a.num)/\Ce W A 3 (aB a.n)) (first|exact⟨o,m,l,j,i,h,g⟩|exact⟨J,Q,H,a0,T,S,R⟩|go_keep) (first|(go_at_call 108;refine(s _ (Below.refl _ _).drew).mono ?_;rintro q L ⟨rfl,N⟩;have E:Hid (Bw w L):=aG ((Below.refl _ _).drew.trans N);obtain⟨o,m,l,j,i,h,g⟩:=K L E;clear N))
 all_goals go_wp2_with fail
 all_goals go_ret
 all_goals exact⟨rfl,E⟩
theorem dE{e size:Nat}{F:List Value}{A:Array Value}{ty:TypeId}{H:Nat×Nat}(h:w.ownsRow B e size v n F)(G:w.heap[b]?=some (.cells A ty H))(C:ty≠e):¬aT v b:=fun E=>by
 rcases h.2 with⟨D,_⟩|⟨L,cap,J,D,K,hg,_⟩
 ·subst D;cases E
 ·subst D;cases E;rw[G]at hg;simp at hg;exact C hg.2.1
theorem uw{bt:Nat}{T nx ins:Int}{e:Tu}{t:List Fm}{p:Ph}{r:List Pa}{v:Vl}(O:w.heap[a]?=some (.cells (lQ b bt (aF c) T nx ins e) 267 (0,0)))(R:AG w B c p r)(P:cN w B bt y t)(S:t≠[])(n:p.ln< 6):
  Calls Tryz.prog 288 #[aF a,vI v] w fun q w'=>q=.returned (.tuple #[])/\cN w' B bt y (aZ t (oY (cJ t) p v))/\w'.heap[a]?=some (.cells (lQ b bt (aF c) T nx ins {e with vl:=v}) 267 (0,0))/\aC (fun i=>aT y i\/i=a) w w':=by
 obtain⟨sr,sb,J,-,-⟩:=R.ex
 have s:=R.lt
 have G:=aA O
 have g:Ce w a 1 (aF bt):=G.cell 1
 have f:Ce w a 2 (aF c):=G.cell 2
 have a0:Ce w c 3 (.string ⟨p.lt.toArray⟩):=J.cell 3
 have l:Ce w c 4 (aB p.la):=J.cell 4
 have j:Ce w c 5 (aB p.ln):=J.cell 5
 have Q:=J.lt
 have A:¬aT y a:=dE P.row O (by decide)
 have C:¬aT y c:=fun h=>by
  rcases P.row.2 with⟨K,_⟩|⟨u,cap,a3,K,hB,hg,_⟩
  ·subst K;cases h
  ·subst K
   have X:some u=some c:=h
   have d:=Option.some.inj X
   omega
 have Y:Hid (∀W,aC (aT y) w W->Ce W a 1 (aF bt)/\Ce W a 2 (aF c)/\Ce W c 3 (.string ⟨p.lt.toArray⟩)/\Ce W c 4 (aB p.la)/\Ce W c 5 (aB p.ln)/\W.heap[a]?=some (.cells (lQ b bt (aF c) T nx ins e) 267 (0,0))):=fun W k=>⟨(k.cell (p:=Ad a 1) G.lt A).trans g,(k.cell (p:=Ad a 2) G.lt A).trans f,(k.cell (p:=Ad c 3) Q C).trans a0,(k.cell (p:=Ad c 4) Q C).trans l,(k.cell (p:=Ad c 5) Q C).trans j,(k.block a G.lt A).trans O⟩
 obtain⟨HA,HN⟩:=aN (GF (v:=v) (p:=p) (P.below ((Below.refl _ w).drew)) S n) A
 generalize m:aZ t (oY (cJ t) p v)=x at *
 clear R P J G O m A C
 go_in
 go_wp2_with fail
 go_region_held3 (fun W=>Ce W a 1 (aF bt)/\Ce W a 2 (aF c)/\Ce W c 3 (.string ⟨p.lt.toArray⟩)/\Ce W c 4 (aB p.la)/\Ce W c 5 (aB p.ln)) (first|exact⟨K,X,d,e4,e5⟩|exact⟨g,f,a0,l,j⟩|go_keep) (first|(go_at_call 171;refine HA.mono ?_;rintro q E ⟨rfl,H,F⟩;have L:=aG H;have M:Hid (aC (aT y) w E):=aG ⟨F.os,F.tape,F.output,F.size,F.block⟩;obtain⟨K,X,d,e4,e5,V⟩:=Y E M;clear F H))
 all_goals
  have D:=aA V
  have z:Ce E a 11 (vI e.vl):=D.cell 11
  have f2:E.frozen? (Ad a 11)=false:=D.fz 11
  have N:=aG V
  unfold vI at z⊢
  clear V D
  go_wp2_with fail
  go_end0
  have Z:aC (aK a) E (E.setCell (Ad a 11) (vI v)):=(aC.refl _ _).set1 _ _
  refine⟨rfl,L.kept Z (fun h=>?_) (fun i o h=>?_),?_,(M.mono (fun i h=>.inl h)).trans (Z.mono (fun i h=>.inr h))⟩
  ·have h:bt=a:=h
   have:=L.hd
   rw[h,N.out]at this
   simp at this
  ·have h:i=a:=h
   subst h
   exact HN o
  ·exact heap_setCell N _ _
structure TC(w:World)(B bu bm bt bs:Nat)(s:Fs)(e:Tu)(fv:Value)(t:List Fm):Prop where
 tu:w.heap[bu]?=some (.cells (lQ bm bt (aF bs) s.fn s.nx s.ins e) 267 (0,0))
 st:AG w B bs s.p s.r
 th:cN w B bt fv t
 ne:t≠[]
 le:B<=bu
section
variable {w w':World} {B bu bm bt bs:Nat} {s:Fs} {e:Tu} {fv:Value} {t:List Fm}
theorem TC.no(h:TC w B bu bm bt bs s e fv t):¬aT fv bu:=dE h.th.row h.tu (by decide)
theorem TC.nt(h:TC w B bu bm bt bs s e fv t):bt≠bu:=fun e=>by
 have:=h.th.hd
 rw[e,h.tu]at this
 simp at this
theorem TC.kept{S:Nat->Prop}(h:TC w B bu bm bt bs s e fv t)(k:aC S w w')(E:∀i,S i->B<=i)(D:¬S bu)(C:¬S bt)(A:∀i,aT fv i->¬S i):TC w' B bu bm bt bs s e fv t:=
 ⟨(k.block bu (aA h.tu).lt D).trans h.tu,h.st.kept k E,h.th.kept k C A,h.ne,h.le⟩
theorem TC.below(h:TC w B bu bm bt bs s e fv t)(k:Bw w w'):TC w' B bu bm bt bs s e fv t:=h.kept (aC.of_below (S:=fun _=>False) k) (fun _ h=>h.elim) (fun h=>h) (fun h=>h) (fun _ _ h=>h)
theorem TC.set(h:TC w B bu bm bt bs s e fv t)(j:Nat)(u:Value){e':Tu}(C:(lQ bm bt (aF bs) s.fn s.nx s.ins e).setIfInBounds j u=lQ bm bt (aF bs) s.fn s.nx s.ins e'):TC (w.setCell ⟨bu,j,none⟩ u) B bu bm bt bs s e' fv t/\aC (aK bu) w (w.setCell ⟨bu,j,none⟩ u):=by
 have k:aC (aK bu) w (w.setCell (Ad bu j) u):=(aC.refl _ _).set1 j u
 refine⟨⟨by rw[heap_setCell h.tu,C],h.st.kept k (fun i e=>by have e:i=bu:=e;have:=h.le;omega),h.th.kept k (fun e=>h.nt e) (fun i A e=>h.no (by have e:i=bu:=e;subst e;exact A)),h.ne,h.le⟩,k⟩
end
end
def AO(v:Value):Option (DataW Unit×List MemPlace):=match v with
 |.iface t (.int .i64 n)=>if t=vT 0 then some (.agg [.lit (.int .i64 0),.lit (.int .i64 n)],[])else if t=vT 1 then some (.agg [.lit (.int .i64 1),.lit (.int .i64 n)],[])else if t=vT 2 then some (.agg [.lit (.int .i64 2),.lit (.int .i64 n)],[])else none
 |.nilIface=>some (.agg [],[])
 |_=>none
def zf(v:Vl):DataW Unit:=.agg [.lit (.int .i64 v.1),.lit (.int .i64 v.2)]
def hQ:Mt (Int×Int) Vl:=⟨206,AO,fun x=>kA [x.1,x.2],fun x=>.string (keyBytes (kI [x.1,x.2])),vI,zf,fun x=>gu x.1/\gu x.2,fun v=>v.1< 3⟩
theorem AN{a:Vl}{B:List MemPlace}(h:AO v=some (zf a,B)):v=vI a:=by
 obtain⟨k,n⟩:=a
 unfold AO at h
 split at h
 ·rename_i t m
  split at h
  ·rename_i e;simp[zf]at h;obtain⟨⟨A,rfl⟩,_⟩:=h;have:k=0:=by omega
   subst this;subst e;rfl
  ·split at h
   ·rename_i e;simp[zf]at h;obtain⟨⟨A,rfl⟩,_⟩:=h;have:k=1:=by omega
    subst this;subst e;rfl
   ·split at h
    ·rename_i e;simp[zf]at h;obtain⟨⟨A,rfl⟩,_⟩:=h;have:k=2:=by omega
     subst this;subst e;rfl
    ·cases h
 ·simp[zf]at h
 ·cases h
theorem AM{A:List MemPlace}(h:AO v=some (.agg [],A)):v=.nilIface:=by
 unfold AO at h
 split at h
 ·repeat' split at h
  all_goals simp at h
 ·rfl
 ·cases h
theorem vG:hQ.Good where
 kd:=vk
 key:=fun x A=>tB A.1 A.2
 inj:=fun x y A C h=>by
  have E:=tB A.1 A.2
  have D:=tB C.1 C.2
  have h:Lit.string (keyBytes (kI [x.1,x.2]))=.string (keyBytes (kI [y.1,y.2])):=h
  rw[<-h]at D
  have:=vm E D
  simp at this
  exact Prod.ext this.1 this.2
 lit:=fun _=>trivial
 mke:=fun a B=>by
  obtain⟨k,n⟩:=a
  have B:k< 3:=B
  match k,B with
  |0,_=>rfl
  |1,_=>rfl
  |2,_=>rfl
 inv:=fun v a F h=>AN h
theorem aC.of_turned{w':World}(h:w.mapTurned w' b):aC (aK b) w w':=by
 have g:=h.grown
 exact⟨g.os,g.tape,g.output,g.size,fun k A B=>g.block k A (fun e=>B (Option.some.inj e))⟩
theorem Gc{o fd:Int}{f:Int×Int->Option Vl}(H:w.cell? (Ad a 0)=some (aF b))(G:w.cell? (Ad b 3)=some (.map (some c)))(E:bI hQ w c n f)(L:gu o)(M:gu fd):
  Calls Tryz.prog 289 #[aF a,.agg #[aB o,aB fd]] w (Rt w (vI ((f (o,fd)).getD (0,0)))):=by
 obtain⟨D,C⟩:=bM (w.alloc (.cells #[aB o,aB fd] 206))
 have A:Bw w D:=by rw[C];exact ba _ _
 have B:(Instr.lookup 187 (.map (some c)) (.agg #[aB o,aB fd]) true).run Tryz.prog D.drew=.ok (.tuple #[((f (o,fd)).map vI).getD .nilIface,.bool (f (o,fd)).isSome]) D.drew:=(E.below A.drew E.lt).get vG (t:=187) (e:=82) Tryz.underlying187 (z:=.nilIface) (by kernel_rfl) (zd:=.agg []) rfl (fun v N h=>AM h) (o,fd) ⟨L,M⟩
 have R:Ce D a 0 (aF b):=bc A H
 have Q:Ce D b 3 (.map (some c)):=bc A G
 have P:D.cell? (Ad w.heap.size 0)=some (aB o):=by rw[C];exact(aM.new w _ _).cell 0
 have O:D.cell? (Ad w.heap.size 1)=some (aB fd):=by rw[C];exact(aM.new w _ _).cell 1
 obtain⟨K,J⟩:=aN C A
 clear C A H G E
 cases F:f (o,fd)with
 |none=>
  rw[F]at B
  simp only[Option.map_none,Option.getD_none,Option.isSome_none]at B⊢
  unfold vI vT
  go_in
  go_wp2_with fail
  rw[<-K.out]
  go_region
  all_goals go_wp2_with fail
  all_goals go_ret
  all_goals exact⟨rfl,J.drew⟩
 |some v=>
  rw[F]at B
  simp only[Option.map_some,Option.getD_some,Option.isSome_some]at B⊢
  unfold vI at B⊢
  go_in
  go_wp2_with fail
  rw[<-K.out]
  go_region
  all_goals go_wp2_with fail
  all_goals go_ret
  all_goals exact⟨rfl,J.drew⟩
theorem Be{bt:Nat}{q:Value}{M nx ins:Int}{e:Tu}{o fd:Int}{v:Vl}{f:Int×Int->Option Vl}(G:w.heap[a]?=some (.cells (lQ b bt q M nx ins e) 267 (0,0)))(O:w.cell? (Ad b 3)=some (.map (some d)))(K:bI hQ w d n f)(S:n<=1000000)(R:gu o)(V:gu fd)(Q:v.1< 3):
  Calls Tryz.prog 290 #[aF a,.agg #[aB o,aB fd],vI v] w fun r w'=>r=.returned (.tuple #[])/\bI hQ w' d (n+1) (fun y=>if y=(o,fd)then some v else f y)/\w'.heap[a]?=some (.cells (lQ b bt q M nx ins {e with vl:=v}) 267 (0,0))/\aC (fun i=>i=d\/i=a) w w':=by
 obtain⟨D,J⟩:=bM (w.alloc (.cells #[aB o,aB fd] 206))
 have E:Bw w D:=by rw[J];exact ba _ _
 obtain⟨W,B,H,A⟩:=(K.below E.drew K.lt).put vG (t:=187) (e:=82) Tryz.underlying187 S (o,fd) ⟨R,V⟩ v Q
 have B:(Instr.mapUpdate 187 (.map (some d)) (.agg #[aB o,aB fd]) (vI v)).run Tryz.prog D.drew=.ok () W:=B
 have L:=aC.of_turned A
 have P:Ce w a 0 (aF b):=(aA G).cell 0
 have x:Ce D a 0 (aF b):=bc E P
 have u:Ce D b 3 (.map (some d)):=bc E O
 have s:D.cell? (Ad w.heap.size 0)=some (aB o):=by rw[J];exact(aM.new w _ _).cell 0
 have p:D.cell? (Ad w.heap.size 1)=some (aB fd):=by rw[J];exact(aM.new w _ _).cell 1
 have F:a≠d:=fun e=>by
  subst e
  obtain⟨_,⟨m,c,N,_⟩,_⟩:=K
  rw[G]at N;cases N
 have C:W.heap[a]?=some (.cells (lQ b bt q M nx ins e) 267 (0,0)):=(L.block a (Nat.lt_of_lt_of_le (aA G).lt E.size) (fun h=>F h)).trans ((E.block a (aA G).lt).trans G)
 have X:Ce W a 11 (vI e.vl):=(aA C).cell 11
 have l:W.frozen? (Ad a 11)=false:=(aA C).fz 11
 obtain⟨Y,g⟩:=aN C H
 have j:Hid (aC (fun i=>i=d\/i=a) w W):=(aC.of_below E.drew).trans (L.mono (T:=fun i=>i=d\/i=a) (fun i h=>.inl h))
 obtain⟨k,Z⟩:=aN J F
 unfold vI at B X
 unfold vI
 clear J E P O K G H L A C F
 go_in
 go_wp2_with fail
 rw[<-k.out]
 go_region
 all_goals go_wp2_with fail
 all_goals go_end0
 all_goals
  refine⟨rfl,g.blk ?_,heap_setCell Y _ _,j.trans (((aC.refl (aK a) W).set1 11 (vI v)).mono (fun i h=>.inr h))⟩
  exact Below.heap_setCell _ _ _ _ (fun h=>Z h.symm)
section
theorem ud(h:n< 1000000):gu (n:Int):=by
 unfold gu Lit.wf
 have B:IntKind.i64.min=-9223372036854775808:=by decide
 have A:IntKind.i64.max=9223372036854775807:=by decide
 simp only[B,A,Bool.and_eq_true,decide_eq_true_eq]
 omega
section
variable {w:World} {B bu bm bt bs hb n:Nat} {s:Fs} {e:Tu} {fv:Value} {t:List Fm} {a:Pa} {f:Int×Int->Option Vl}
theorem bI.kept{κ α:Type}{T:Mt κ α}{S:Nat->Prop}{w':World}{f:κ->Option α}(h:bI T w b n f)(k:aC S w w')(A:¬S b):bI T w' b n f:=h.blk (k.block b h.lt A)
theorem bI.nc{κ α:Type}{T:Mt κ α}{f:κ->Option α}{A:Array Value}{ty:TypeId}{z:Nat×Nat}(h:bI T w b n f)(C:w.heap[b]?=some (.cells A ty z)):False:=by
 obtain⟨_,⟨D,c,B,_⟩,_⟩:=h
 rw[C]at B;cases B
theorem bI.no{κ α:Type}{T:Mt κ α}{f:κ->Option α}{a:Nat}{D:List Value}(h:bI T w b n f)(E:w.ownsRow B a c v k D):¬aT v b:=fun C=>by
 rcases E.2 with⟨A,_⟩|⟨H,cap,F,A,G,hg,_⟩
 ·subst A;cases C
 ·subst A;cases C;exact h.nc hg
theorem my{e size i:Nat}{D:List Value}(h:w.ownsRow B e size v n D)(C:aT v i):B<=i:=by
 rcases h.2 with⟨A,_⟩|⟨E,cap,F,A,G,hg,_⟩
 ·subst A;cases C
 ·subst A;have:=Option.some.inj (show some E=some i from C);omega
theorem TC.gave{v:World}{E:Tu}{C:List Fm}(h:TC w B bu bm bt bs s e fv t)(F:v.heap[bu]?=some (.cells (lQ bm bt (aF bs) s.fn s.nx s.ins E) 267 (0,0)))(G:cN v B bt fv C)(D:C.length=t.length)(k:aC (fun i=>aT fv i\/i=bu) w v):TC v B bu bm bt bs s E fv C:=
 ⟨F,h.st.kept k (fun i A=>by
  rcases A with A|A
  ·exact my h.th.row A
  ·have:=h.le;omega),G,fun e=>h.ne (by rw[e]at D;exact List.length_eq_zero_iff.1 D.symm),h.le⟩
theorem ey(t:List Fm)(f:Fm):(aZ t f).length=t.length:=by simp[aZ]
theorem JB(h:TC w B bu bm bt bs s e fv t)(X:w.cell? (Ad bm 3)=some (.map (some hb)))(N:bI hQ w hb n f)(L:bm≠bu)(R:s.r[0]?=some a)(hm:a.num< 6)(b:s.p.ln< 6):
  Calls Tryz.prog 247 #[aF bu] w fun q w'=>q=.returned (.tuple #[])/\TC w' B bu bm bt bs s {e with fd:=a.num,vl:=(f (-1,a.num)).getD (0,0)} fv (aZ t (oY (cJ t) s.p ((f (-1,a.num)).getD (0,0))))/\aC (fun i=>aT fv i\/i=bu) w w':=by
 obtain⟨sr,sb,S,J,g⟩:=h.st.ex
 obtain⟨k,Z⟩:∃k,s.r.length=k+1:=⟨s.r.length-1,by have:=(List.getElem?_eq_some_iff.1 R).1;omega⟩
 rw[Z]at J
 obtain⟨V,c,rfl⟩:=aO J (by omega)
 have b2:Ce w bu 2 (aF bs):=(aA h.tu).cell 2
 have c3:Ce w bs 12 (.slice (some (Ad V 0)) (k+1) c):=S.cell 12
 have a2:Ce w V 2 (aB a.num):=cZ J (jH R 2 (by omega))
 have j:Ce w bu 10 (aB e.fd):=(aA h.tu).cell 10
 have Y:w.frozen? (Ad bu 10)=false:=(aA h.tu).fz 10
 have d:(0:Int)< (k:Int)+1:=by omega
 obtain⟨W,M⟩:=bM (w.setCell (Ad bu 10) (aB a.num))
 obtain⟨H,D⟩:=h.set 10 (aB a.num) (e':={e with fd:=a.num}) rfl
 rw[<-M]at H D
 have d0:Ce W bu 10 (aB a.num):=(aA H.tu).cell 10
 have F:=L
 obtain⟨m,y,u,l⟩:=fK (Gc (w:=W) (o:=-1) (fd:=a.num) ((aA H.tu).cell 0) (kc D X F) (N.kept D (fun e=>N.nc (by have e:hb=bu:=e;rw[e];exact h.tu))) (by decide) (ud (by omega))) H D M
 generalize(f (-1,(a.num:Int))).getD (0,0)=v at *
 clear h S J g H D M N X
 go_in
 go_wp2_with fail
 rw[<-l.out]
 refine m.mono ?_
 rintro q w2 ⟨rfl,C⟩
 have A:=y.below C
 obtain⟨x,P,O⟩:=bY (uw (v:=v) A.tu A.st A.th A.ne b) C A
 clear C A
 go_wp2_with fail
 refine x.mono ?_
 rintro q z ⟨rfl,G,E,Q⟩
 have K:=aG (And.intro G (And.intro E Q))
 clear G E Q
 go_wp2_with fail
 go_end0
 exact⟨rfl,O.gave K.2.1 K.1 (ey _ _) K.2.2,((u.mono (T:=fun i=>aT fv i\/i=bu) (fun i h=>.inr h)).trans (aC.of_below P)).trans K.2.2⟩
theorem GA(h:TC w B bu bm bt bs s e fv t)(g:w.cell? (Ad bm 3)=some (.map (some hb)))(Z:bI hQ w hb n f)(m:n<=1000000)(X:bm≠bu)(hB:B<=hb)(u:s.r[0]?=some a)(o:a.num< 6)(hl:s.p.ln< 6)(l:(cD (cJ t) a).1< 3):
  Calls Tryz.prog 248 #[aF bu] w fun q w'=>q=.returned (.tuple #[])/\TC w' B bu bm bt bs s {e with fd:=s.p.ln,vl:=cD (cJ t) a} fv t/\bI hQ w' hb (n+1) (fun y=>if y=(-1,(s.p.ln:Int))then some (cD (cJ t) a)else f y)/\aC (fun i=>i=hb\/i=bu) w w':=by
 obtain⟨sr,sb,P,z,x⟩:=h.st.ex
 have b2:Ce w bu 2 (aF bs):=(aA h.tu).cell 2
 have c3:Ce w bs 5 (aB s.p.ln):=P.cell 5
 have a0:Ce w bu 10 (aB e.fd):=(aA h.tu).cell 10
 have j:w.frozen? (Ad bu 10)=false:=(aA h.tu).fz 10
 obtain⟨W,Y⟩:=bM (w.setCell (Ad bu 10) (aB s.p.ln))
 obtain⟨K,L⟩:=h.set 10 (aB s.p.ln) (e':={e with fd:=s.p.ln}) rfl
 rw[<-Y]at K L
 have M:hb≠bu:=fun e=>Z.nc (by rw[e];exact h.tu)
 have F:=Z.kept L (fun e=>M e)
 have Q:=kc L g X
 have E:=K.below (Below.refl _ W).drew
 have HF:=aG (mr (aA E.tu) E.st E.th E.ne u o)
 have d:Ce W bu 10 (aB s.p.ln):=(aA K.tu).cell 10
 have c:Hid (∀G,Bw W G->Ca 290 #[aF bu,.agg #[aB (-1),aB s.p.ln],vI (cD (cJ t) a)] G fun r w'=>r=.returned (.tuple #[])/\bI hQ w' hb (n+1) (fun y=>if y=(-1,(s.p.ln:Int))then some (cD (cJ t) a)else f y)/\w'.heap[bu]?=some (.cells (lQ bm bt (aF bs) s.fn s.nx s.ins {e with fd:=s.p.ln,vl:=cD (cJ t) a}) 267 (0,0))/\aC (fun i=>i=hb\/i=bu) G w'):=fun G S=>Be (K.below S).tu (bc S Q) (F.below S F.lt) m (by decide) (ud (by omega)) l
 obtain⟨HC,HK,HW,R,HH⟩:=ma K L Y F M
 generalize V:cD (cJ t) a=v at *
 clear h P z x K L Y Z g F Q E V
 go_in
 go_wp2_with fail
 rw[<-HW.out]
 go_region_held3 (fun W'=>Ce W' bu 10 (aB s.p.ln)) (first|exact e1|exact d|exact e2|go_keep) (first|(go_at_call 245;refine HF.mono ?_;rintro q G ⟨rfl,N⟩;have D:Hid (Bw W G):=aG ((Below.refl _ _).drew.trans N);have e1:=bc D d;clear N)|(go_at_call 290;refine(c G D).mono ?_;rintro q k ⟨rfl,O,H,J⟩;have b:=aG (And.intro O (And.intro H J));have e2:Ce k bu 10 (aB s.p.ln):=(aA H).cell 10;clear O H J))
 all_goals go_wp2_with fail
 all_goals go_end0
 all_goals
  have A:=HC.below D
  have J:=b.2.2
  refine⟨rfl,⟨b.2.1,A.st.kept J (fun i C=>by rcases C with C|C;omega;have:=A.le;omega),A.th.kept J (fun C=>?_) (fun i P C=>?_),A.ne,A.le⟩,b.1,((HK.mono (T:=fun i=>i=hb\/i=bu) (fun i h=>.inr h)).trans (aC.of_below D)).trans J⟩
  ·rcases C with C|C
   ·subst C;exact(R.below D R.lt).nc A.th.hd
   ·exact A.nt C
  ·rcases C with C|C
   ·subst C;exact(R.below D R.lt).no A.th.row P
   ·subst C;exact A.no P
end
end
section
theorem qV:(Tryz.prog.info? 206).map (·.size)=some 2:=by kernel_rfl
theorem Ga(n:Int)(w:World):(Instr.typeAssert (.iface 443 (aB n)) 82 443 true).run Tryz.prog w=.ok (.tuple #[aB n,.bool true]) w:=by kernel_rfl
theorem FZ(n:Int)(w:World):(Instr.typeAssert (.iface 254 (aB n)) 82 254 true).run Tryz.prog w=.ok (.tuple #[aB n,.bool true]) w:=by kernel_rfl
section
variable {w:World} {B bu bm bt bs hb n:Nat} {s:Fs} {e:Tu} {fv:Value} {t:List Fm} {a:Pa} {f:Int×Int->Option Vl}
theorem Bg(h:TC w B bu bm bt bs s e fv t)(o:Int):
  Calls Tryz.prog 291 #[aF bu,aB o] w fun q w'=>q=.returned (.agg #[aB o,aB s.p.side])/\TC w' B bu bm bt bs s {e with ob:=o,fd:=s.p.side} fv t/\aC (aK bu) w w':=by
 have N:=(aA h.tu).lt
 obtain⟨D,G⟩:=h.set 9 (aB o) (e':={e with ob:=o}) rfl
 obtain⟨C,F⟩:=D.set 10 (aB s.p.side) (e':={e with ob:=o,fd:=s.p.side}) rfl
 obtain⟨sr,sb,E,-,-⟩:=h.st.ex
 have A:=aA h.tu
 have V:Ce w bu 2 (aF bs):=A.cell 2
 have T:Ce w bu 9 (aB e.ob):=A.cell 9
 have R:w.frozen? (Ad bu 9)=false:=A.fz 9
 have S:Ce w bs 7 (aB s.p.side):=E.cell 7
 have O:Ce w bu 10 (aB e.fd):=A.cell 10
 have J:w.frozen? (Ad bu 10)=false:=A.fz 10
 have L:¬bs=bu:=fun e=>by have:=h.st.lt;have:=h.le;omega
 have M:=E.lt
 have P:Hid (aC (aK bu) w ((w.setCell (Ad bu 9) (aB o)).setCell (Ad bu 10) (aB s.p.side))):=G.trans F
 have Q:=aG C
 clear h D C G F E A
 go_in
 go_wp2_with fail
 have K:((w.setCell (Ad bu 9) (aB o)).setCell (Ad bu 10) (aB s.p.side)).heap.size=w.heap.size:=by simp[World.setCell]
 have H:=heap_alloc_new ((w.setCell (Ad bu 9) (aB o)).setCell (Ad bu 10) (aB s.p.side)) (.cells #[aB o,aB s.p.side] 206)
 rw[K]at H
 have kA:=(Below.refl ((w.setCell (Ad bu 9) (aB o)).setCell (Ad bu 10) (aB s.p.side)).heap.size _).alloc (Nat.le_refl _) (.cells #[aB o,aB s.p.side] 206)
 exact bodyPost_ret (results_cell_row rfl _ _ w.heap.size 206 #[aB o,aB s.p.side] (0,0) _ rfl H Tryz.underlying206 rfl qV) rfl ⟨rfl,Q.below kA,P.trans (aC.of_below kA)⟩
theorem Lq(h:TC w B bu bm bt bs s e fv t)(k:w.cell? (Ad bm 3)=some (.map (some hb)))(P:bI hQ w hb n f)(O:bm≠bu)(z:s.r[0]?=some a)(x:a.num< 6)(y:s.p.ln< 6)(u:cD (cJ t) a=(1,(o:Int)))(m:o< 100)(hs:s.p.side< 100):
  Calls Tryz.prog 249 #[aF bu] w fun q w'=>q=.returned (.bool true)/\TC w' B bu bm bt bs s {e with ob:=o,fd:=s.p.side,vl:=(f (o,s.p.side)).getD (0,0)} fv (aZ t (oY (cJ t) s.p ((f (o,s.p.side)).getD (0,0))))/\aC (fun i=>aT fv i\/i=bu) w w':=by
 generalize j:(f ((o:Int),(s.p.side:Int))).getD (0,0)=v
 have V:=aG (mr (aA h.tu) h.st h.th h.ne z x)
 rw[u]at V
 have HC:=aG h
 have J:=O
 obtain⟨HM,Y⟩:=aN P k
 have H:¬aK bu hb:=fun e=>P.nc (by have e:hb=bu:=e;rw[e];exact h.tu)
 have R:=aG H
 have l:=Ga o
 have Q:=aG j
 unfold vI vT at V
 clear h P k H j
 go_in
 go_wp2_with fail
 refine V.mono ?_
 rintro q w1 ⟨rfl,E⟩
 have L:=HC.below E
 obtain⟨b,S⟩:=aN E (Bg L (o:Int))
 clear E L
 go_wp2_with fail
 refine S.mono ?_
 rintro q c ⟨rfl,F,g⟩
 have C:aC (aK bu) w c:=(aC.of_below b).trans g
 have N:=Gc (w:=c) (o:=o) (fd:=s.p.side) ((aA F.tu).cell 0) (kc C Y J) (HM.kept C R) (ud (by omega)) (ud (by omega))
 rw[Q.out]at N
 obtain⟨HR,X,HK⟩:=bY N F C
 clear F g C N
 go_wp2_with fail
 refine HR.mono ?_
 rintro q w3 ⟨rfl,D⟩
 have A:=X.below D
 obtain⟨HG,Z,W⟩:=bY (uw (v:=v) A.tu A.st A.th A.ne y) D A
 clear D A
 go_wp2_with fail
 refine HG.mono ?_
 rintro q w4 ⟨rfl,K,G,d⟩
 have M:=aG (And.intro K (And.intro G d))
 clear K G d
 go_wp2_with fail
 go_ret
 exact⟨rfl,W.gave M.2.1 M.1 (ey _ _) M.2.2,((HK.mono (T:=fun i=>aT fv i\/i=bu) (fun i h=>.inr h)).trans (aC.of_below Z)).trans M.2.2⟩
end
end
section
section
variable {w:World} {B bu bm bt bs hb n:Nat} {s:Fs} {e:Tu} {fv:Value} {t:List Fm} {a:Pa} {f:Int×Int->Option Vl}
theorem cN.open(h:cN w B bt fv t)(A:t≠[]):∃g k c,t.length=k+1/\fv=.slice (some (Ad g 0)) (k+1) c/\k< 6/\g< w.heap.size/\(∀j,j< 7->w.cell? (Ad g (k*7+j))=(qM (cJ t))[j]?)/\∀j,w.frozen? (Ad g j)=false:=by
 obtain⟨k,D⟩:∃k,t.length=k+1:=⟨t.length-1,by have:=List.length_pos_iff.2 A;omega⟩
 have C:=h.row
 rw[D]at C
 obtain⟨g,c,rfl⟩:=aO C (by omega)
 have E:=kF A
 rw[D,Nat.add_sub_cancel]at E
 have F:∀j,j< 7->w.cell? (Ad g (k*7+j))=(qM (cJ t))[j]?:=fun j G=>by
  have H:=lK (h.ok _ (lD A))
  rw[List.getElem?_eq_getElem (by omega)]
  exact cZ C (by rw[tF h.ok E G,List.getElem?_eq_getElem (by omega)])
 exact⟨g,k,c,D,rfl,by have:=h.len;omega,aD (F 0 (by omega)),F,xk C⟩
theorem Lp(h:TC w B bu bm bt bs s e fv t)(x:w.cell? (Ad bm 3)=some (.map (some hb)))(W:bI hQ w hb n f)(hn:n<=1000000)(V:bm≠bu)(hB:B<=hb)(ha:s.r[0]?=some a)(hm:a.num< 6)(hl:s.p.ln< 6)(ho:(cJ t).lo.getD s.p.ln (0,0)=(1,(o:Int)))(a1:o< 100)(hs:s.p.side< 100)(hv:(cD (cJ t) a).1< 3):
  Calls Tryz.prog 250 #[aF bu] w fun q w'=>q=.returned (.bool true)/\TC w' B bu bm bt bs s {e with ob:=o,fd:=s.p.side,vl:=cD (cJ t) a} fv t/\bI hQ w' hb (n+1) (fun y=>if y=((o:Int),(s.p.side:Int))then some (cD (cJ t) a)else f y)/\aC (fun i=>i=hb\/i=bu) w w':=by
 obtain⟨g,k,c,hk,rfl,a3,a4,E,a5⟩:=h.th.open h.ne
 have a2:=h.th.ok _ (lD h.ne)
 have r1:w.cell? (Ad g (k*7+1+s.p.ln))=some (vI (1,o)):=by
  rw[Nat.add_assoc,E _ (by omega)]
  have:=ho
  rw[List.getD_eq_getElem?_getD,List.getElem?_eq_getElem (by omega)]at this
  simp only[Option.getD_some]at this
  simp[qM,Nat.add_comm 1,List.getElem?_eq_getElem (show s.p.ln< (cJ t).lo.length by omega),this]
 unfold vI vT at r1
 obtain⟨sr,sb,Q,-,-⟩:=h.st.ex
 have F:=aA h.tu
 have b1:Ce w bu 1 (aF bt):=F.cell 1
 have b2:Ce w bu 2 (aF bs):=F.cell 2
 have c5:Ce w bs 5 (aB s.p.ln):=Q.cell 5
 have y1:(0:Int)<=s.p.ln:=by omega
 have y2:(s.p.ln:Int)< 6:=by omega
 have HT:Hid (∀m,Ca 107 #[aF bt] (w.drewN m) fun r w'=>r=.returned (Pt g (k*7))/\∃m',w'=(w.drewN m).drewN m'):=fun m=>sw (by have:=h.th.cell;exact this) (by omega)
 have a0:=Ga o
 obtain⟨HC,HM,u⟩:=bY h W x
 have O:hb≠bu:=fun e=>W.nc (by rw[e];exact h.tu)
 have Z:=aG O
 generalize M:cD (cJ t) a=v at *
 have Y:=aG M
 clear h W x O M Q F E
 go_in
 go_wp2_with fail
 go_quiet ((go_at_call 107;exact Calls.quiet_of (HT _)))
 go_wp2_with fail
 refine(Bg (HC.below (aR (Below.refl _ _) nq)) o).mono ?_
 rintro q w2 ⟨rfl,D,L⟩
 have z:=aG (mr (aA D.tu) D.st D.th D.ne ha hm)
 rw[Y.out]at z
 have l:=aG D
 have d:Hid (aC (aK bu) w w2):=aG ⟨L.os,L.tape,L.output,L.size,L.block⟩
 clear D L
 go_wp2_with fail
 refine z.mono ?_
 rintro q w3 ⟨rfl,G⟩
 have J:=l.below G
 have S:aC (aK bu) w w3:=d.trans (aC.of_below G)
 have H:=HM.kept S (fun e=>Z e)
 obtain⟨HW,j,b,R⟩:=fK (Be (v:=v) (o:=o) (fd:=s.p.side) J.tu (kc S u V) H hn (ud (by omega)) (ud (by omega)) hv) J S H
 clear G J S H
 go_wp2_with fail
 refine HW.mono ?_
 rintro q w4 ⟨rfl,P,N,K⟩
 have X:=aG (And.intro P (And.intro N K))
 clear P N K
 go_wp2_with fail
 go_ret
 have A:=j.out
 have K:=X.2.2
 refine⟨rfl,⟨X.2.1,A.st.kept K (fun i C=>by rcases C with C|C;omega;have:=A.le;omega),A.th.kept K (fun C=>?_) (fun i Q C=>?_),A.ne,A.le⟩,X.1,(b.mono (T:=fun i=>i=hb\/i=bu) (fun i h=>.inr h)).trans K⟩
 ·rcases C with C|C
  ·subst C;exact R.nc A.th.hd
  ·exact A.nt C
 ·rcases C with C|C
  ·subst C;exact R.no A.th.row Q
  ·subst C;exact A.no Q
end
end
section
theorem Gb(n:Int)(w:World):(Instr.typeAssert (.iface 148 (aB n)) 82 148 true).run Tryz.prog w=.ok (.tuple #[aB n,.bool true]) w:=by kernel_rfl
theorem Ht{x y:Int}(A:IntKind.i64.wrap (x+y)=x+y)(w:World):
  Calls Tryz.prog 287 #[aB 1,vI (0,x),vI (0,y)] w (Ru w (.tuple #[vI (0,x+y),.bool true])):=by
 have C:=Gb x
 have B:=Gb y
 unfold vI vT
 go_in
 go_wp2_with fail
 exact bodyPost_ret (v:=.tuple #[.iface 148 (aB (x+y)),.bool true]) (by simp[results,Tryz.results287,go_sem]) rfl ⟨rfl,rfl⟩
section
variable {w:World} {B bu bm bt bs hb n:Nat} {s:Fs} {e:Tu} {fv:Value} {t:List Fm} {a b:Pa} {f:Int×Int->Option Vl}
theorem Jz(h:TC w B bu bm bt bs s e fv t)(G:s.p.op=0)(S:s.r[0]?=some a)(Q:a.num< 6)(R:s.p.ln< 6):
  Calls Tryz.prog 246 #[aF bu] w fun q w'=>q=.returned (.bool true)/\TC w' B bu bm bt bs s {e with vl:=cD (cJ t) a} fv (aZ t (oY (cJ t) s.p (cD (cJ t) a)))/\aC (fun i=>aT fv i\/i=bu) w w':=by
 generalize P:cD (cJ t) a=v
 have O:=aG (mr (aA h.tu) h.st h.th h.ne S Q)
 rw[P]at O
 obtain⟨sr,sb,M,-,-⟩:=h.st.ex
 have T:Ce w bu 2 (aF bs):=(aA h.tu).cell 2
 have N:Ce w bs 6 (aB s.p.op):=M.cell 6
 rw[G]at N
 have W:=aG h
 clear h M
 go_in
 go_wp2_with fail
 refine O.mono ?_
 rintro q K ⟨rfl,C⟩
 have Z:Ce K bu 2 (aF bs):=bc C T
 have Y:Ce K bs 6 (aB ((0:Nat):Int)):=bc C N
 have A:=W.below C
 obtain⟨V,H,J⟩:=bY (uw (v:=v) A.tu A.st A.th A.ne R) A C
 clear A C
 go_wp2_with fail
 refine V.mono ?_
 rintro q X ⟨rfl,E,D,L⟩
 have F:=aG (And.intro E (And.intro D L))
 clear E D L
 go_wp2_with fail
 go_ret
 exact⟨rfl,H.gave F.2.1 F.1 (ey _ _) F.2.2,(aC.of_below J).trans F.2.2⟩
theorem JC(h:TC w B bu bm bt bs s e fv t)(L:s.r[0]?=some a)(K:a.num< 6)(J:cD (cJ t) a=(2,(o:Int))):
  Calls Tryz.prog 253 #[aF bu] w fun q w'=>q=.returned (.bool true)/\TC w' B bu bm bt bs s {e with ob:=o} fv t/\aC (aK bu) w w':=by
 have E:=aG (mr (aA h.tu) h.st h.th h.ne L K)
 rw[J]at E
 have H:=FZ o
 have N:=aG h
 unfold vI vT at E
 clear h
 go_in
 go_wp2_with fail
 refine E.mono ?_
 rintro q F ⟨rfl,C⟩
 have A:=N.below C
 obtain⟨D,G⟩:=A.set 9 (aB o) (e':={e with ob:=o}) rfl
 have P:Ce F bu 9 (aB e.ob):=(aA A.tu).cell 9
 have O:F.frozen? (Ad bu 9)=false:=(aA A.tu).fz 9
 have M:=aG (And.intro D ((aC.of_below C).trans G))
 clear A D G C
 go_wp2_with fail
 go_ret
 exact⟨rfl,M⟩
theorem sQ{r:List Pa}{b:Pa}(h:r[1]?=some b)(j:Nat)(A:j< 4):(eF r)[4+j]?=(oK b)[j]?:=by
 match r,h with
 |x::y::r,h=>
  simp at h;subst h
  have e:eF (x::y::r)=oK x++(oK y++eF r):=rfl
  rw[e,List.getElem?_append_right (by simp[oK]),List.getElem?_append_left (by simp[oK];omega)]
  congr 1
  simp[oK]
theorem Jy(h:TC w B bu bm bt bs s e fv t)(X:s.p.op=1)(ha:s.r[0]?=some a)(M:s.r[1]?=some b)(hm:a.num< 6)(Y:b.num< 6)(hl:s.p.ln< 6){x y:Int}(u:cD (cJ t) a=(0,x))(o:cD (cJ t) b=(0,y))(z:IntKind.i64.wrap (x+y)=x+y):
  Calls Tryz.prog 246 #[aF bu] w fun q w'=>q=.returned (.bool true)/\TC w' B bu bm bt bs s {e with vl:=(0,x+y)} fv (aZ t (oY (cJ t) s.p (0,x+y)))/\aC (fun i=>aT fv i\/i=bu) w w':=by
 have j:=aG (mr (aA h.tu) h.st h.th h.ne ha hm)
 rw[u]at j
 have HC:=aG h
 obtain⟨sr,sb,Z,F,-⟩:=h.st.ex
 obtain⟨k,hn⟩:∃k,s.r.length=k+1+1:=⟨s.r.length-2,by have:=(List.getElem?_eq_some_iff.1 M).1;omega⟩
 rw[hn]at F
 obtain⟨A,c,rfl⟩:=aO F (by omega)
 have O:Ce w bu 1 (aF bt):=(aA h.tu).cell 1
 have Q:Ce w bu 2 (aF bs):=(aA h.tu).cell 2
 have J:Ce w bs 6 (aB s.p.op):=Z.cell 6
 have D:Ce w bs 12 (.slice (some (Ad A 0)) (k+1+1) c):=Z.cell 12
 have a0:Ce w A 4 (.string ⟨b.text.toArray⟩):=cZ F (sQ M 0 (by omega))
 have T:Ce w A 5 (aB b.at_):=cZ F (sQ M 1 (by omega))
 have S:Ce w A 6 (aB b.num):=cZ F (sQ M 2 (by omega))
 have R:Ce w A 7 (aB b.n):=cZ F (sQ M 3 (by omega))
 rw[X]at J
 have l1:=aD O
 have l2:=aD J
 have l3:=aD a0
 have P:Hid (∀W,Bw w W->Ce W bu 1 (aF bt)/\Ce W bu 2 (aF bs)/\Ce W bs 6 (aB ((1:Nat):Int))/\Ce W bs 12 (.slice (some (Ad A 0)) (k+1+1) c)/\Ce W A 4 (.string ⟨b.text.toArray⟩)/\Ce W A 5 (aB b.at_)/\Ce W A 6 (aB b.num)/\Ce W A 7 (aB b.n)):=fun W k=>⟨bc k O,bc k Q,bc k J,bc k D,bc k a0,bc k T,bc k S,bc k R⟩
 have HV:Hid (∀W,Bw w W->Ca 108 #[aF bt,.agg #[.string ⟨b.text.toArray⟩,aB b.at_,aB b.num,aB b.n]] W (Rt W (vI (0,y)))):=fun W k=>by rw[<-o];exact DN (h.th.below k) h.ne Y
 have HP:Hid (∀W,Ca 287 #[aB 1,vI (0,x),vI (0,y)] W (Ru W (.tuple #[vI (0,x+y),.bool true]))):=fun W=>Ht z W
 have a4:(1:Int)< (k:Int)+1+1:=by omega
 clear h Z F O Q J D a0 T S R
 go_in
 go_wp2_with fail
 refine j.mono ?_
 rintro q m ⟨rfl,E⟩
 obtain⟨O,Q,J,D,a0,T,S,R⟩:=P m E
 have H:=aG E
 clear E
 go_wp2_with fail
 go_region_held3 (fun W=>Ce W bu 1 (aF bt)/\Ce W bu 2 (aF bs)/\Ce W bs 6 (aB ((1:Nat):Int))/\Ce W bs 12 (.slice (some (Ad A 0)) (k+1+1) c)/\Ce W A 4 (.string ⟨b.text.toArray⟩)/\Ce W A 5 (aB b.at_)/\Ce W A 6 (aB b.num)/\Ce W A 7 (aB b.n)) (first|exact⟨e1,e2,e3,e4,e5,e6,e7,e8⟩|exact⟨O,Q,J,D,a0,T,S,R⟩|go_keep) (first|(go_at_call 108;refine(HV _ (H.drew)).mono ?_;rintro q f ⟨rfl,L⟩;have G:Hid (Bw w f):=aG (H.drew.trans (L.mono H.size));obtain⟨e1,e2,e3,e4,e5,e6,e7,e8⟩:=P f G;clear L)|(go_at_call 287;refine(HP _).mono ?_;rintro q l ⟨rfl,hq⟩;subst l))
 all_goals
  have C:=HC.below G
  obtain⟨HG,d⟩:=aN (uw (v:=(0,x+y)) C.tu C.st C.th C.ne hl) C
  clear C
  go_wp2_with fail
  refine HG.mono ?_
  rintro q w3 ⟨rfl,N,K,g⟩
  have V:=aG (And.intro N (And.intro K g))
  clear N K g
  go_wp2_with fail
  go_ret
  exact⟨rfl,d.gave V.2.1 V.1 (ey _ _) V.2.2,(aC.of_below G).trans V.2.2⟩
end
end
section
section
variable {w:World} {B bu bm bt bs lb n:Nat} {s:Fs} {e:Tu} {fv:Value} {t:List Fm} {a b:Pa} {f:Int->Option Int}
theorem TC.wrote{v:World}{E:Tu}(h:TC w B bu bm bt bs s e fv t){κ α:Type}{T:Mt κ α}{g:κ->Option α}(C:bI T w lb m g)(G:B<=lb)(F:v.heap[bu]?=some (.cells (lQ bm bt (aF bs) s.fn s.nx s.ins E) 267 (0,0)))(k:aC (fun i=>i=lb\/i=bu) w v):TC v B bu bm bt bs s E fv t:=by
 refine⟨F,h.st.kept k (fun i A=>by rcases A with A|A;omega;have:=h.le;omega),h.th.kept k (fun A=>?_) (fun i D A=>?_),h.ne,h.le⟩
 ·rcases A with A|A
  ·subst A;exact C.nc h.th.hd
  ·exact h.nt A
 ·rcases A with A|A
  ·subst A;exact C.no h.th.row D
  ·subst A;exact h.no D
theorem JA(h:TC w B bu bm bt bs s e fv t)(Y:w.cell? (Ad bm 4)=some (.map (some lb)))(P:bI km w lb n f)(b:n<=1000000)(N:bm≠bu)(c:B<=lb)(a:s.p.nn< 100)(M:gu e.th):
  Calls Tryz.prog 254 #[aF bu] w fun q w'=>q=.returned (.tuple #[])/\TC w' B bu bm bt bs s {e with fd:=s.p.nn} fv t/\bI km w' lb (n+1) (fun y=>if y=(s.p.nn:Int)then some e.th else f y)/\aC (fun i=>i=lb\/i=bu) w w':=by
 obtain⟨sr,sb,V,-,-⟩:=h.st.ex
 have C:=aA h.tu
 have x:Ce w bu 2 (aF bs):=C.cell 2
 have g:Ce w bs 11 (aB s.p.nn):=V.cell 11
 have j:Ce w bu 10 (aB e.fd):=C.cell 10
 have Z:w.frozen? (Ad bu 10)=false:=C.fz 10
 obtain⟨W,O⟩:=bM (w.setCell (Ad bu 10) (aB s.p.nn))
 obtain⟨H,J⟩:=h.set 10 (aB s.p.nn) (e':={e with fd:=s.p.nn}) rfl
 rw[<-O]at H J
 have F:lb≠bu:=fun e=>P.nc (by rw[e];exact h.tu)
 have D:=P.kept J (fun e=>F e)
 obtain⟨X,E,K,A⟩:=(D.below (Below.refl _ W).drew D.lt).put gh (t:=188) (e:=3) Tryz.underlying188 b (s.p.nn:Int) (ud (by omega)) e.th M
 have E:(Instr.mapUpdate 188 (.map (some lb)) (aB s.p.nn) (aB e.th)).run Tryz.prog W.drew=.ok () X:=E
 have G:=aC.of_turned A
 have v:Ce W bu 0 (aF bm):=(aA H.tu).cell 0
 have u:Ce W bm 4 (.map (some lb)):=kc J Y N
 have r:Ce W bu 6 (aB e.th):=(aA H.tu).cell 6
 have d:Ce W bu 10 (aB s.p.nn):=(aA H.tu).cell 10
 obtain⟨R,m,Q,o⟩:=fK H K D J
 have L:Hid (aC (aK lb) W X):=aG ⟨G.os,G.tape,G.output,G.size,G.block⟩
 obtain⟨k,l⟩:=aN O F
 clear h V C H J F D K A G P Y O
 go_in
 go_wp2_with fail
 rw[<-k.out]
 go_region
 all_goals go_wp2_with fail
 all_goals go_end0
 all_goals
  have S:=L.mono (T:=fun i=>i=lb\/i=bu) (fun i h=>.inl h)
  exact⟨rfl,R.wrote Q c ((L.block bu (aA R.tu).lt (fun h=>l (Eq.symm h))).trans R.tu) S,m,(o.mono (T:=fun i=>i=lb\/i=bu) (fun i h=>.inr h)).trans S⟩
theorem Cq(v:Value)(A:List MemPlace)(h:km.R v=some (.lit (.int .i64 0),A)):v=aB 0:=by
 obtain⟨c,_,rfl,e⟩:=hH h
 cases e;rfl
theorem DO(h:TC w B bu bm bt bs s e fv t)(Z:w.cell? (Ad bm 4)=some (.map (some lb)))(P:bI km w lb n f)(N:bm≠bu)(d:B<=lb)(b:s.p.nn< 100)(c:f (s.p.nn:Int)=some e.th):
  Calls Tryz.prog 255 #[aF bu] w fun q w'=>q=.returned (.bool true)/\TC w' B bu bm bt bs s {e with fd:=s.p.nn} fv t/\bI km w' lb n (fun y=>if y=(s.p.nn:Int)then none else f y)/\aC (fun i=>i=lb\/i=bu) w w':=by
 obtain⟨sr,sb,Y,-,-⟩:=h.st.ex
 have D:=aA h.tu
 have b2:Ce w bu 2 (aF bs):=D.cell 2
 have j:Ce w bs 11 (aB s.p.nn):=Y.cell 11
 have k:Ce w bu 10 (aB e.fd):=D.cell 10
 have a:w.frozen? (Ad bu 10)=false:=D.fz 10
 obtain⟨W,O⟩:=bM (w.setCell (Ad bu 10) (aB s.p.nn))
 obtain⟨H,J⟩:=h.set 10 (aB s.p.nn) (e':={e with fd:=s.p.nn}) rfl
 rw[<-O]at H J
 have F:lb≠bu:=fun e=>P.nc (by rw[e];exact h.tu)
 have A:=P.kept J (fun e=>F e)
 have M:(Instr.lookup 188 (.map (some lb)) (aB s.p.nn) true).run Tryz.prog W.drew=.ok (.tuple #[aB e.th,.bool true]) W.drew:=by
  have:=(A.below (Below.refl _ W).drew A.lt).get gh (t:=188) (e:=3) Tryz.underlying188 (z:=aB 0) (yr _) (zd:=.lit (.int .i64 0)) (gh.mke 0 (ud (n:=0) (by decide))) Cq (s.p.nn:Int) (ud (by omega))
  rw[c]at this
  exact this
 obtain⟨X,E,K,C⟩:=(A.below (Below.refl _ W).drew.drew A.lt).del gh (t:=188) (e:=3) Tryz.underlying188 (s.p.nn:Int) (ud (by omega)) 0
 have G:=aC.of_turned C
 have V:∀ty,(Builtin.delete_ #[188,3] ty #[.map (some lb),aB s.p.nn]).run Tryz.prog W.drew.drew=.ok (.tuple #[]) X:=fun ty=>E
 have x:Ce W bu 0 (aF bm):=(aA H.tu).cell 0
 have v:Ce W bm 4 (.map (some lb)):=kc J Z N
 have u:Ce W bu 6 (aB e.th):=(aA H.tu).cell 6
 have g:Ce W bu 10 (aB s.p.nn):=(aA H.tu).cell 10
 obtain⟨R,o,Q,r⟩:=fK H K A J
 have L:Hid (aC (aK lb) W X):=aG ⟨G.os,G.tape,G.output,G.size,G.block⟩
 obtain⟨l,m⟩:=aN O F
 clear h Y D H J F A K C G P Z O E
 go_in
 go_wp2_with fail
 rw[<-l.out]
 go_region
 all_goals go_wp2_with fail
 all_goals go_region
 all_goals go_wp2_with fail
 all_goals go_ret
 all_goals
  have S:=L.mono (T:=fun i=>i=lb\/i=bu) (fun i h=>.inl h)
  exact⟨rfl,R.wrote Q d ((L.block bu (aA R.tu).lt (fun h=>m (Eq.symm h))).trans R.tu) S,o,(r.mono (T:=fun i=>i=lb\/i=bu) (fun i h=>.inr h)).trans S⟩
def uh(bF:Nat)(tv:Value)(objs hb lb ob:Nat):Array Value:=#[aF bF,tv,.int .i64 objs,.map (some hb),.map (some lb),aF ob]
theorem DQ{bF objs hb ob:Nat}{tv:Value}(h:TC w B bu bm bt bs s e fv t)(hmc:w.heap[bm]?=some (.cells (uh bF tv objs hb lb ob) 193 (0,0)))(hB:B<=bm)(ho:objs< 8)(hl:s.p.ln< 6):
  Calls Tryz.prog 251 #[aF bu] w fun q w'=>q=.returned (.bool true)/\TC w' B bu bm bt bs s {e with ob:=objs,vl:=(1,objs)} fv (aZ t (oY (cJ t) s.p (1,objs)))/\w'.heap[bm]?=some (.cells (uh bF tv (objs+1) hb lb ob) 193 (0,0))/\aC (fun i=>aT fv i\/i=bu\/i=bm) w w':=by
 have hbu:=aA h.tu
 have hbm:=aA hmc
 have b0:Ce w bu 0 (aF bm):=hbu.cell 0
 have m2:Ce w bm 2 (aB objs):=hbm.cell 2
 have b9:Ce w bu 9 (aB e.ob):=hbu.cell 9
 have z9:w.frozen? (Ad bu 9)=false:=hbu.fz 9
 have hne:bm≠bu:=fun e=>by rw[e,h.tu]at hmc;simp at hmc
 have hnt:bm≠bt:=fun e=>by rw[e,h.th.hd]at hmc;simp at hmc
 have hno:¬aT fv bm:=dE h.th.row hmc (by decide)
 have h8:((objs:Int)==8)=false:=by simp;omega
 obtain⟨W,hW⟩:=bM (w.setCell (Ad bu 9) (aB objs))
 obtain⟨hC,kW⟩:=h.set 9 (aB objs) (e':={e with ob:=objs}) rfl
 rw[<-hW]at hC kW
 have hmW:=(kW.block bm hbm.lt (fun e=>hne e)).trans hmc
 have d0:Ce W bu 0 (aF bm):=(aA hC.tu).cell 0
 have d2:Ce W bm 2 (aB objs):=(aA hmW).cell 2
 have HG:=aG (uw (v:=(1,objs)) hC.tu hC.st hC.th hC.ne hl)
 have hwr:IntKind.i64.wrap ((objs:Int)+1)=((objs+1:Nat):Int):=by
  have:=yt (n:=objs+1) (by omega)
  simpa using this
 obtain⟨HC,HK,HW,HMW,HN⟩:=ma hC kW hW hmW (And.intro hne (And.intro hnt hno))
 unfold vI vT at HG
 clear h hbu hbm hC kW hW hmW hmc hne hnt hno
 go_in
 go_wp2_with fail
 rw[<-HW.out]
 go_wp2_with fail
 refine HG.mono ?_
 rintro q w3 ⟨rfl,hT3,hu3,k3⟩
 have hC3:=HC.gave hu3 hT3 (ey _ _) k3
 have hm3:=(k3.block bm (aA HMW).lt (fun e=>by rcases e with e|e;exact HN.2.2 e;exact HN.1 e)).trans HMW
 have e0:Ce w3 bu 0 (aF bm):=(aA hC3.tu).cell 0
 have e2:Ce w3 bm 2 (aB objs):=(aA hm3).cell 2
 have z2:w3.frozen? (Ad bm 2)=false:=(aA hm3).fz 2
 have HX:=aG (And.intro hC3 (And.intro hm3 k3))
 clear hT3 hu3 k3 hC3 hm3
 go_wp2_with fail
 go_ret
 have k4:aC (aK bm) w3 (w3.setCell (Ad bm 2) (aB ((objs+1:Nat):Int))):=(aC.refl _ _).set1 _ _
 refine⟨rfl,HX.1.kept k4 (fun i hi=>by have hi:i=bm:=hi;omega) (fun hi=>HN.1 hi.symm) (fun hi=>HN.2.1 hi.symm) (fun i h1 hi=>by have hi:i=bm:=hi;subst hi;exact HN.2.2 h1),heap_setCell HX.2.1 _ _,?_⟩
 exact((HK.mono (T:=fun i=>aT fv i\/i=bu\/i=bm) (fun i h=>.inr (.inl h))).trans (HX.2.2.mono (fun i h=>by rcases h with h|h;exact .inl h;exact .inr (.inl h)))).trans (k4.mono (fun i h=>.inr (.inr h)))
end
end
section
theorem MN(n:Int)(w:World):(binOp .neq 82 (.iface 148 (aB n)) (.iface 148 (aB 0))).run Tryz.prog w=.ok (.bool (!(n==0))) w:=by kernel_rfl
theorem LM(n:Int)(w:World):(binOp .neq 82 (.iface 443 (aB n)) (.iface 148 (aB 0))).run Tryz.prog w=.ok (.bool true) w:=by kernel_rfl
theorem Mg(n:Int)(w:World):(binOp .neq 82 (.iface 254 (aB n)) (.iface 148 (aB 0))).run Tryz.prog w=.ok (.bool true) w:=by kernel_rfl
theorem MM{v:Vl}(A:v.1< 3)(w:World):(binOp .neq 82 (vI v) (.iface 148 (aB 0))).run Tryz.prog w=.ok (.bool (decide (v≠(0,0)))) w:=by
 obtain⟨k,n⟩:=v
 have A:k< 3:=A
 match k,A with
 |0,_=>
  refine(MN n w).trans ?_
  by_cases h:n=0
  ·subst h;rfl
  ·have:(n==0)=false:=by simpa using h
   simp[h,this]
 |1,_=>refine(LM n w).trans ?_;simp
 |2,_=>refine(Mg n w).trans ?_;simp
section
variable {w:World} {B bu bm bt bs:Nat} {s:Fs} {e:Tu} {fv:Value} {t:List Fm} {a:Pa}
theorem TC.goOn{w':World}{x:Int}(h:TC w B bu bm bt bs s e fv t)(C:t.length=k+1)(D:fv=.slice (some (Ad g 0)) (k+1) c)(e':w'=(w.setCell ⟨g,k*7,none⟩ (.int .i64 x)).drewN m):TC w' B bu bm bt bs s e fv (aZ t {cJ t with pl:=x})/\aC (aT fv) w w':=by
 subst D
 obtain⟨E,A⟩:=h.th.put (j:=0) (f:={cJ t with pl:=x}) (u:=aB x) C (by omega) (show(cJ t).lo.length=6 from h.th.ok _ (lD h.ne)) rfl (Below.refl _ _) (by simpa using e')
 exact⟨h.gave ((A.block bu (aA h.tu).lt h.no).trans h.tu) E (ey _ _) (A.mono (fun i h=>.inl h)),A⟩
theorem Gz{v:Vl}{b:Bool}{x:Int}(h:TC w B bu bm bt bs s e fv t)(p:s.r[0]?=some a)(o:a.num< 6)(L:cD (cJ t) a=v)(u:∀w:World,(binOp .neq 82 (vI v) (.iface 148 (aB 0))).run Tryz.prog w=.ok (.bool b) w)(V:x=bif b then s.ins else s.nx):
  Calls Tryz.prog 174 #[aF bu] w fun q w'=>q=.returned (.tuple #[])/\TC w' B bu bm bt bs s {e with vl:=v} fv (aZ t {cJ t with pl:=x})/\aC (fun i=>aT fv i\/i=bu) w w':=by
 have T:=aG (mr (aA h.tu) h.st h.th h.ne p o)
 rw[L]at T
 have HC:=aG h
 unfold vI at T u
 clear h L
 cases b<;>simp only[cond_true,cond_false]at V<;>subst V
 all_goals
  go_in
  go_wp2_with fail
  refine T.mono ?_
  rintro q J ⟨rfl,H⟩
  have E:=HC.below H
  obtain⟨A,Q⟩:=E.set 11 (vI v) (e':={e with vl:=v}) rfl
  obtain⟨W,R⟩:=bM (J.setCell (Ad bu 11) (vI v))
  rw[<-R]at A Q
  have S:Ce J bu 11 (vI e.vl):=(aA E.tu).cell 11
  have d:J.frozen? (Ad bu 11)=false:=(aA E.tu).fz 11
  have F:=aA E.tu
  have d1:Ce J bu 1 (aF bt):=F.cell 1
  have d4:Ce J bu 4 (aB s.nx):=F.cell 4
  have d5:Ce J bu 5 (aB s.ins):=F.cell 5
  obtain⟨N,K,y,M,D,X,Y,C,G⟩:=A.th.open A.ne
  have z:=aG (sw (w:=W) (bt:=bt) (g:=N) (n:=K) (c:=y) (by have:=A.th.cell;rw[D]at this;exact this) (by omega))
  have r0:Ce W N (K*7) (aB (cJ t).pl):=C 0 (by omega)
  have z0:W.frozen? (Ad N (K*7))=false:=G _
  have O:Hid (aC (fun i=>aT fv i\/i=bu) w W):=aG (((aC.of_below H).trans Q).mono (fun i h=>.inr h))
  have P:Hid (∀m (x:Int),TC ((W.setCell (Ad N (K*7)) (aB x)).drewN m) B bu bm bt bs s {e with vl:=v} fv (aZ t {cJ t with pl:=x})/\aC (fun i=>aT fv i\/i=bu) w ((W.setCell (Ad N (K*7)) (aB x)).drewN m)):=fun m x=>by
   obtain⟨j,f⟩:=A.goOn M D (m:=m) (x:=x) rfl
   exact⟨j,O.trans (f.mono (fun i h=>.inl h))⟩
  have Z:=aG R
  unfold vI at S Z
  clear E A Q H F R C G M D O
  go_wp2_with fail
  rw[<-Z.out]
  refine z.mono ?_
  rintro q k ⟨rfl,m,l⟩
  subst k
  go_wp2_with fail
  go_end0
  exact⟨rfl,P m _⟩
theorem Jw(h:TC w B bu bm bt bs s e fv t)(E:s.r[0]?=some a)(D:a.num< 6)(C:(cD (cJ t) a).1< 3):
  Ca 174 #[aF bu] w fun q w'=>q=.returned (.tuple #[])/\TC w' B bu bm bt bs s {e with vl:=cD (cJ t) a} fv (aZ t {cJ t with pl:=if cD (cJ t) a=(0,0)then s.nx else s.ins})/\aC (fun i=>aT fv i\/i=bu) w w':=
 Gz h E D rfl (MM C) (by by_cases A:cD (cJ t) a=(0,0)<;>simp[A])
end
end
theorem lq:(Tryz.prog.info? 197).map (·.size)=some 7:=by kernel_rfl
theorem ny:(Tryz.prog.info? 82).map (·.size)=some 1:=by kernel_rfl
def AF(p:Int)(j:Nat):Array Value:=(Value.int .i64 p::(List.replicate j (vI (0,0))++List.replicate (6-j) .nilIface)).toArray
theorem Fc{p:Int}(h:j< 6):(AF p j).setIfInBounds (1+j) (vI (0,0))=AF p (j+1):=by
 match j,h with
 |0,_=>rfl
 |1,_=>rfl
 |2,_=>rfl
 |3,_=>rfl
 |4,_=>rfl
 |5,_=>rfl
theorem Ix{p:Int}(h:j< 6):(AF p j)[1+j]?=some .nilIface:=by
 match j,h with
 |0,_=>rfl
 |1,_=>rfl
 |2,_=>rfl
 |3,_=>rfl
 |4,_=>rfl
 |5,_=>rfl
def rK(vs:List Vl):List Vl:=vs++List.replicate (6-vs.length) (0,0)
def Gq(p:Int)(l:List Vl):Array Value:=#[.int .i64 p,vI (l.getD 0 (0,0)),vI (l.getD 1 (0,0)),vI (l.getD 2 (0,0)),vI (l.getD 3 (0,0)),vI (l.getD 4 (0,0)),vI (l.getD 5 (0,0))]
theorem CB{p:Int}{l:List Vl}(h:l.length=6):Gq p l=(qM ⟨p,l⟩).toArray:=by
 match l,h with
 |[a,b,c,d,e,f],_=>rfl
theorem Fa{p:Int}{vs:List Vl}(h:vs.length<=6):((AF p 6).toList.take 1++vs.map vI++(AF p 6).toList.drop (1+(vs.map vI).length)).toArray=Gq p (rK vs):=by
 match vs,h with
 |[],_=>rfl
 |[a],_=>rfl
 |[a,b],_=>rfl
 |[a,b,c],_=>rfl
 |[a,b,c,d],_=>rfl
 |[a,b,c,d,e],_=>rfl
 |[a,b,c,d,e,f],_=>rfl
 |a::b::c::d::e::f::g::l,h=>simp at h
theorem CS{W:World}{X:Nat}{p:Int}{vs:List Vl}(C:W.heap[b]?=some (.cells (AF p 6) 197 (0,0)))(E:W.ownsRow X 82 1 y vs.length (vs.map vI))(F:vs.length<=6):
  ∃n W',(∀ty,(Builtin.copy_ #[249,249] ty #[.slice (some (Ad b 1)) 6 6,y]).run Tryz.prog W=.ok (goInt n) W')/\W'.heap[b]?=some (.cells (Gq p (rK vs)) 197 (0,0))/\aC (aK b) W W':=by
 rcases E.2 with⟨D,J⟩|⟨K,cap,L,D,M,hg,Q,P,O,N⟩
 ·subst D
  have:vs=[]:=List.length_eq_zero_iff.1 J
  subst this
  exact⟨0,W,fun ty=>run_copy_nil _ W _ _ ty _ _ _ _ Tryz.underlying249 (by rw[ny];rfl),C,aC.refl _ _⟩
 ·subst D
  have G:(vs.map vI).length=Nat.min vs.length 6:=by rw[List.length_map];exact(Nat.min_eq_left F).symm
  have B:(AF p 6).size=7:=rfl
  refine⟨(vs.map vI).length,_,fun ty=>run_copy_row _ W 249 249 ty 82 b 1 6 6 (Ad K 0) vs.length cap (AF p 6) 197 (vs.map vI) Tryz.underlying249 ny C G (fun j v A=>?_) (by rw[B,List.length_map];omega) (fun v A=>?_),?_,?_⟩
  ·have:=cZ E A
   unfold Addr.add
   split
   ·rename_i h;simp_all
   ·simpa using this
  ·obtain⟨x,_,rfl⟩:=List.mem_map.1 A
   rfl
  ·rw[Fa F]
   exact setRow_heap W b (AF p 6) _ _ _ C
  ·exact⟨rfl,rfl,rfl,by simp[World.setRow],fun k _ H=>setRow_other W b k _ (fun e=>H e)⟩
theorem Ck{X:Nat}{p:Int}{vs:List Vl}(s:w.cell? (Ad a 0)=some (aF b))(r:w.cell? (Ad b 0)=some (.slice (some (Ad g 0)) n c))(l:d< n)(q:w.cell? (Ad g d)=some (aB p))(Q:w.ownsRow X 82 1 y vs.length (vs.map vI))(f:vs.length<=6):
  Calls Tryz.prog 71 #[aF a,aB d,y] w (Rt w (.agg (Gq p (rK vs)))):=by
 have l0:=aD s
 have l1:=aD r
 have l2:=aD q
 have y1:(0:Int)<=d:=by omega
 have y2:(d:Int)< n:=by omega
 obtain⟨pa,ca,rfl⟩:=aI Q
 have HR:=aG Q
 clear Q
 go_in
 go_wp2_with fail
 go_loopw [20] (fun i wr=>∃j:Nat,i=aB j/\j<=6/\Hid (wr.heap[w.heap.size+1]?=some (.cells (AF p j) 197 (0,0))/\wr.heap[w.heap.size]?=some (.cells #[aB 0,.nilIface,.nilIface,.nilIface,.nilIface,.nilIface,.nilIface] 197 (0,0))/\Bw w wr)) (fun i _=>6-(intOf i).toNat)
 case atStart=>
  refine⟨0,rfl,by omega,?_,?_,(ba w _).alloc (by simp) _⟩
  ·have:=heap_alloc_new (w.alloc (.cells #[aB 0,.nilIface,.nilIface,.nilIface,.nilIface,.nilIface,.nilIface] 197)) (.cells (AF p 0) 197)
   rw[World.size_alloc]at this
   exact this
  ·exact(Below.heap_alloc _ _ _ (by simp)).trans (heap_alloc_new w _)
 case round=>
  obtain⟨j,rfl,hj,O⟩:=hrel
  by_cases S:j=6
  ·subst S
   obtain⟨E,M,C⟩:=O.out
   obtain⟨nn,W',N,B,D⟩:=CS E (aP HR C) f
   have R:¬w.heap.size=w.heap.size+1:=by omega
   have A:=(D.block w.heap.size (gl M) (fun e=>R e)).trans M
   obtain⟨L,K,J,H,G,F,P⟩:∃L K J H G F:Vl,Gq p (rK vs)=#[aB p,vI L,vI K,vI J,vI H,vI G,vI F]:=⟨_,_,_,_,_,_,rfl⟩
   rw[P]at B
   have b0:Ce W' (w.heap.size+1) 0 (aB p):=(aA B).cell 0
   have b1:Ce W' (w.heap.size+1) 1 (vI L):=(aA B).cell 1
   have b2:Ce W' (w.heap.size+1) 2 (vI K):=(aA B).cell 2
   have z:Ce W' (w.heap.size+1) 3 (vI J):=(aA B).cell 3
   have x:Ce W' (w.heap.size+1) 4 (vI H):=(aA B).cell 4
   have u:Ce W' (w.heap.size+1) 5 (vI G):=(aA B).cell 5
   have t:Ce W' (w.heap.size+1) 6 (vI F):=(aA B).cell 6
   have HX:=aG P
   unfold vI at b1 b2 z x u t
   clear P
   have d0:Ce W' w.heap.size 0 (aB 0):=(aA A).cell 0
   have d1:Ce W' w.heap.size 1 .nilIface:=(aA A).cell 1
   have d2:Ce W' w.heap.size 2 .nilIface:=(aA A).cell 2
   have d3:Ce W' w.heap.size 3 .nilIface:=(aA A).cell 3
   have d4:Ce W' w.heap.size 4 .nilIface:=(aA A).cell 4
   have d5:Ce W' w.heap.size 5 .nilIface:=(aA A).cell 5
   have d6:Ce W' w.heap.size 6 .nilIface:=(aA A).cell 6
   have dz:∀j,W'.frozen? (Ad w.heap.size j)=false:=(aA A).fz
   have HK:Hid (Bw w W'):=aG ⟨D.os.trans C.os,D.tape.trans C.tape,D.output.trans C.output,Nat.le_trans C.size D.size,fun k V=>(D.block k (Nat.lt_of_lt_of_le V C.size) (fun e=>by have e:k=w.heap.size+1:=e;omega)).trans (C.block k V)⟩
   have T:=aG A
   have W:=N
   clear E M C B A D O N
   go_wp2_with fail
   have m:=heap_setCell (heap_setCell (heap_setCell (heap_setCell (heap_setCell (heap_setCell (heap_setCell T 0 (aB p)) 1 (vI L)) 2 (vI K)) 3 (vI J)) 4 (vI H)) 5 (vI G)) 6 (vI F)
   have o:Bw w _:=((((((HK.setCell (p:=Ad w.heap.size 0) (Nat.le_refl _) (aB p)).setCell (p:=Ad w.heap.size 1) (Nat.le_refl _) (vI L)).setCell (p:=Ad w.heap.size 2) (Nat.le_refl _) (vI K)).setCell (p:=Ad w.heap.size 3) (Nat.le_refl _) (vI J)).setCell (p:=Ad w.heap.size 4) (Nat.le_refl _) (vI H)).setCell (p:=Ad w.heap.size 5) (Nat.le_refl _) (vI G)).setCell (p:=Ad w.heap.size 6) (Nat.le_refl _) (vI F)
   refine bodyPost_ret (results_cell_row rfl _ _ w.heap.size 197 #[aB p,vI L,vI K,vI J,vI H,vI G,vI F] (0,0) _ rfl m Tryz.underlying197 rfl lq) rfl ⟨?_,o⟩
   rw[HX.out]
  ·have Z:(j:Int)< 6:=by omega
   have h:(0:Int)<=j:=by omega
   obtain⟨E,M,C⟩:=O.out
   have s1:wr.cell? (Ad (w.heap.size+1) (1+j))=some .nilIface:=by rw[(aA E).cell];exact Ix (by omega)
   have s2:wr.frozen? (Ad (w.heap.size+1) (1+j))=false:=(aA E).fz _
   have HN:Hid (∀v:Value,v=vI (0,0)->(wr.setCell (Ad (w.heap.size+1) (1+j)) v).heap[w.heap.size+1]?=some (.cells (AF p (j+1)) 197 (0,0))/\(wr.setCell (Ad (w.heap.size+1) (1+j)) v).heap[w.heap.size]?=some (.cells #[aB 0,.nilIface,.nilIface,.nilIface,.nilIface,.nilIface,.nilIface] 197 (0,0))/\Bw w (wr.setCell (Ad (w.heap.size+1) (1+j)) v)):=fun v Y=>by
    subst Y
    refine⟨?_,?_,C.setCell (p:=Ad (w.heap.size+1) (1+j)) (by show w.heap.size<=w.heap.size+1;omega) _⟩
    ·rw[heap_setCell E,Fc (by omega)]
    ·rw[Below.heap_setCell _ _ _ _ (by show¬w.heap.size=w.heap.size+1;omega)];exact M
   clear E M C O
   go_wp2_with fail
   go_roundw
   case rel=>exact⟨j+1,by go_num,by omega,HN _ rfl⟩
   case measure=>simp[intOf];omega
theorem vP:(Tryz.prog.info? 82).map (fun i=>(i.zero,i.size,i.bytes))=some (some .nilIface,1,16):=by kernel_rfl
theorem pZ{P:Program}{t:TypeId}(h:(P.info? t).map (fun i=>(i.zero,i.size,i.bytes))=some (some z,a,b)):∃i,P.info? t=some i/\i.zero=some z/\i.size=a/\i.bytes=b:=by
 cases e:P.info? t with
 |none=>rw[e]at h;cases h
 |some i=>rw[e]at h;simp at h;exact⟨i,rfl,h.1,h.2.1,h.2.2⟩
theorem sP{r:List Pa}{b:Pa}(h:r[k]?=some b)(j:Nat)(A:j< 4):(eF r)[k*4+j]?=(oK b)[j]?:=by
 induction r generalizing k with
 |nil=>simp at h
 |cons x r ih=>
  have e:eF (x::r)=oK x++eF r:=rfl
  rw[e]
  cases k with
  |zero=>simp at h;subst h;rw[List.getElem?_append_left (by simp[oK];omega)];simp
  |succ k=>rw[List.getElem?_append_right (by simp[oK];omega),show(k+1)*4+j-(oK x).length=k*4+j by simp[oK];omega];exact ih (by simpa using h)
theorem Jt{bt:Nat}{sr:Value}{t:List Fm}{r:List Pa}(h:cN w B bt y t)(Z:t≠[])(Q:w.ownsRow 0 258 4 sr r.length (eF r))(R:∀a∈r,a.num< 6)(hl:r.length< 100):
  Calls Tryz.prog 286 #[aF bt,sr] w fun q w'=>∃z,q=.returned z/\w'.ownsRow w.heap.size 82 1 z r.length (r.map (fun a=>vI (cD (cJ t) a)))/\Bw w w':=by
 obtain⟨i0,hi,Y,X,V⟩:=pZ vP
 obtain⟨N,d⟩:=bM r.length
 rw[<-d]at Q⊢
 obtain⟨pr,cr,rfl⟩:=aI Q
 have HV:Hid (∀W (a:Pa),Bw w W->a.num< 6->Ca 108 #[aF bt,.agg #[.string ⟨a.text.toArray⟩,aB a.at_,aB a.num,aB a.n]] W (Rt W (vI (cD (cJ t) a)))):=fun W a k R=>DN (h.below k) Z R
 obtain⟨HR,HM,HN⟩:=bY Q R d
 have a7:N< 100:=by omega
 clear h Q R d hl
 go_in
 go_wp2_with fail
 go_loopw [10,5] (fun i v wr=>∃j:Nat,i=aB j/\j<=N/\Hid (∃p c,v=.slice p j c)/\Hid (wr.ownsRow w.heap.size 82 1 v j ((r.take j).map (fun a=>vI (cD (cJ t) a)))/\Bw w wr)) (fun i _ _=>N-(intOf i).toNat)
 case atStart=>exact⟨0,rfl,by omega,⟨none,0,rfl⟩,World.ownsRow_nil _ _ _ _,Below.refl _ _⟩
 case round=>
  obtain⟨j,rfl,hj,HS,G⟩:=hrel
  by_cases H:j=N
  ·have b:¬((j:Int)< (N:Int)):=by omega
   have HF:Hid (wr.ownsRow w.heap.size 82 1 u5 N (r.map (fun a=>vI (cD (cJ t) a)))/\Bw w wr):=by
    have:=G.out
    rw[H,List.take_of_length_le (by rw[HN.out];exact Nat.le_refl _)]at this
    exact this
   clear H
   go_wp2_with fail
   go_ret
   exact⟨u5,rfl,HF⟩
  ·have a5:j< N:=by omega
   have b:(j:Int)< (N:Int):=by omega
   have a6:(0:Int)<=j:=by omega
   obtain⟨g,a8,e⟩:=aO HR (by omega)
   cases e
   obtain⟨a,J⟩:∃a,r[j]?=some a:=⟨_,List.getElem?_eq_getElem (by have:=HN.out;omega)⟩
   have K:=HM a (List.mem_of_getElem? J)
   have E:=aP HR G.2
   have a0:Ce wr g (j*4) (.string ⟨a.text.toArray⟩):=cZ E (sP J 0 (by omega))
   have a1:Ce wr g (j*4+1) (aB a.at_):=cZ E (sP J 1 (by omega))
   have a2:Ce wr g (j*4+2) (aB a.num):=cZ E (sP J 2 (by omega))
   have a3:Ce wr g (j*4+3) (aB a.n):=cZ E (sP J 3 (by omega))
   have l:Hid ((r.take (j+1)).map (fun a=>vI (cD (cJ t) a))=(r.take j).map (fun a=>vI (cD (cJ t) a))++[vI (cD (cJ t) a)]):=by
    show _=_
    rw[List.take_add_one,J];simp
   obtain⟨D,f⟩:=bM (wr.alloc (.cells #[.string ⟨a.text.toArray⟩,aB a.at_,aB a.num,aB a.n] 258))
   have T:Bw wr D:=by rw[f];exact ba _ _
   obtain⟨HC,HD,O⟩:=bY (HV D a (G.2.trans (T.mono G.2.size)) K) f T
   obtain⟨p5,c5,rfl⟩:=HS
   clear E J H f T K
   go_wp2_with fail
   rw[<-HD.out]
   refine HC.mono ?_
   rintro q P ⟨rfl,L⟩
   have m:Hid (Bw wr P):=O.trans (L.mono O.size)
   have F:=aP G.1 m
   have a4:w.heap.size<=P.heap.size:=Nat.le_trans G.2.size m.size
   generalize hv:cD (cJ t) a=v at *
   unfold vI
   clear L a0 a1 a2 a3 HC
   go_wp2_with (at_builtin;refine bE rfl _ _ 249 rfl w.heap.size 82 i0 .nilIface 1 16 Tryz.underlying249 hi Y X V rfl (by decide) _ _ _ rfl (F.alloc _) (Ad P.heap.size 0) 1 1 [.iface (vT v.1) (aB v.2)] rfl rfl (cF _ _ _ _ (by simp)) (by intro u x;simp at x;subst x;rfl) (by decide) (by unfold maxLen;omega) (by omega) (by simp;omega) ?_;intro s o A C _)
   have M:Hid ((∃p c,s=.slice p (j+1) c)/\o.ownsRow w.heap.size 82 1 s (j+1) ((r.take (j+1)).map (fun a=>vI (cD (cJ t) a)))/\Bw w o):=by
    refine⟨aI A,by rw[l.out];exact A,?_⟩
    exact aC.to_below ((aC.of_below (S:=fun _=>False) (G.2.trans (m.mono G.2.size))).trans' (((aC.refl (fun i=>(Value.slice p5 j c5).ownBlock=some i) P).alloc _).grown C (fun k hk=>.inl hk)) (fun i e=>.inr (my F e)))
   clear A C F
   go_wp2_with fail
   go_roundw
   case rel=>exact⟨j+1,by go_num,by omega,M.1,M.2⟩
   case measure=>simp[intOf];omega
section
section
variable {w:World} {B bu bm bt bs bF g n c:Nat} {s:Fs} {e:Tu} {fv:Value} {t:List Fm} {p:Int}
theorem yA(h:TC w B bu bm bt bs s e fv t)(y:w.cell? (Ad bm 0)=some (aF bF))(x:w.cell? (Ad bF 0)=some (.slice (some (Ad g 0)) n c))(i:s.p.nn< n)(v:w.cell? (Ad g s.p.nn)=some (aB p))(hm:∀a∈s.r,a.num< 6)(hl:s.r.length<=6):
  Calls Tryz.prog 244 #[aF bu] w (Rt w (.agg (Gq p (rK (s.r.map (cD (cJ t))))))):=by
 obtain⟨S,R,Q,P,O,N,d⟩:∃S R Q P O N:Vl,Gq p (rK (s.r.map (cD (cJ t))))=#[aB p,vI S,vI R,vI Q,vI P,vI O,vI N]:=⟨_,_,_,_,_,_,rfl⟩
 obtain⟨D,V⟩:=bM (w.alloc (.cells #[aB 0,.nilIface,.nilIface,.nilIface,.nilIface,.nilIface,.nilIface] 197))
 have b:Bw w D:=by rw[V];exact ba _ _
 have u:D.heap[w.heap.size]?=some (.cells #[aB 0,.nilIface,.nilIface,.nilIface,.nilIface,.nilIface,.nilIface] 197 (0,0)):=by rw[V];exact heap_alloc_new _ _
 have f:w.heap.size< D.heap.size:=by rw[V];simp
 obtain⟨sr,sb,Z,m,-⟩:=h.st.ex
 have G:=aA h.tu
 have l0:=G.lt
 have l1:=Z.lt
 have K:Hid (∀W,Bw w W->W.cell? (Ad bu 0)=some (aF bm)/\W.cell? (Ad bu 2)=some (aF bs)/\W.cell? (Ad bs 11)=some (aB s.p.nn)/\W.cell? (Ad bu 1)=some (aF bt)/\W.cell? (Ad bs 12)=some sr):=fun W k=>⟨bc k (G.cell 0),bc k (G.cell 2),bc k (Z.cell 11),bc k (G.cell 1),bc k (Z.cell 12)⟩
 have HV:Hid (∀W,Bw w W->Ca 286 #[aF bt,sr] W fun q w'=>∃J,q=.returned J/\w'.ownsRow W.heap.size 82 1 J s.r.length (s.r.map (fun a=>vI (cD (cJ t) a)))/\Bw W w'):=fun W k=>Jt (h.th.below k) h.ne (aP m k) hm (by omega)
 have z:Hid (∀W J X,Bw w W->W.ownsRow X 82 1 J s.r.length (s.r.map (fun a=>vI (cD (cJ t) a)))->Ca 71 #[aF bm,aB s.p.nn,J] W (Rt W (.agg #[aB p,vI S,vI R,vI Q,vI P,vI O,vI N]))):=fun W J X k T=>by
  rw[<-d]
  exact Ck (bc k y) (bc k x) i (bc k v) (vs:=s.r.map (cD (cJ t))) (by rw[List.length_map,List.map_map];exact T) (by rw[List.length_map];exact hl)
 obtain⟨ps,cs,rfl⟩:=aI m
 have y1:¬w.heap.size=bu:=by omega
 have y2:¬w.heap.size=bs:=by omega
 have y3:¬bu=w.heap.size:=by omega
 have y4:¬bs=w.heap.size:=by omega
 obtain⟨a0,a1,a2,a3,a4⟩:=K D b
 obtain⟨HX,HD,L,HN⟩:=fK d V b u
 unfold vI at z
 clear h G Z m V b u d y x v
 go_in
 go_wp2_with fail
 rw[<-HD.out]
 go_region_held3 (fun W=>W.cell? (Ad bu 0)=some (aF bm)/\W.cell? (Ad bu 2)=some (aF bs)/\W.cell? (Ad bs 11)=some (aB s.p.nn)/\W.cell? (Ad bu 1)=some (aF bt)/\W.cell? (Ad bs 12)=some (.slice ps s.r.length cs)) (first|with_reducible exact⟨g0,g1,g2,g3,g4⟩|with_reducible exact⟨e0,e1,e2,e3,e4⟩|with_reducible exact⟨a0,a1,a2,a3,a4⟩|go_keep) (first|(go_at_call 286;refine(HV _ L.drew).mono ?_;rintro q Y ⟨J,rfl,T,C⟩;obtain⟨pv,cv,rfl⟩:=aI T;have E:Hid (Bw w Y/\Bw D Y):=aG ⟨L.drew.trans (C.mono L.size),⟨C.os,C.tape,C.output,C.size,C.block⟩⟩;obtain⟨e0,e1,e2,e3,e4⟩:=K Y E.1;have HO:=aG T;clear C T)|(go_at_call 71;refine(z Y _ _ E.1 HO).mono ?_;rintro q F ⟨rfl,H⟩;have M:Hid (Bw w F/\Bw D F):=aG ⟨E.1.trans (H.mono E.1.size),E.2.trans (H.mono E.2.size)⟩;obtain⟨g0,g1,g2,g3,g4⟩:=K F M.1;have A:=(M.2.block w.heap.size f).trans HN;have d0:F.cell? (Ad w.heap.size 0)=some (aB 0):=(aA A).cell 0;have d1:F.cell? (Ad w.heap.size 1)=some .nilIface:=(aA A).cell 1;have d2:F.cell? (Ad w.heap.size 2)=some .nilIface:=(aA A).cell 2;have d3:F.cell? (Ad w.heap.size 3)=some .nilIface:=(aA A).cell 3;have d4:F.cell? (Ad w.heap.size 4)=some .nilIface:=(aA A).cell 4;have d5:F.cell? (Ad w.heap.size 5)=some .nilIface:=(aA A).cell 5;have d6:F.cell? (Ad w.heap.size 6)=some .nilIface:=(aA A).cell 6;have dz:∀j,F.frozen? (Ad w.heap.size j)=false:=(aA A).fz;have o:=aG A;clear H A))
 all_goals go_wp2_with fail
 all_goals
  have l:=heap_setCell (heap_setCell (heap_setCell (heap_setCell (heap_setCell (heap_setCell (heap_setCell o 0 (aB p)) 1 (vI S)) 2 (vI R)) 3 (vI Q)) 4 (vI P)) 5 (vI O)) 6 (vI N)
  have hB:Bw w _:=((((((M.1.setCell (p:=Ad w.heap.size 0) (Nat.le_refl _) (aB p)).setCell (p:=Ad w.heap.size 1) (Nat.le_refl _) (vI S)).setCell (p:=Ad w.heap.size 2) (Nat.le_refl _) (vI R)).setCell (p:=Ad w.heap.size 3) (Nat.le_refl _) (vI Q)).setCell (p:=Ad w.heap.size 4) (Nat.le_refl _) (vI P)).setCell (p:=Ad w.heap.size 5) (Nat.le_refl _) (vI O)).setCell (p:=Ad w.heap.size 6) (Nat.le_refl _) (vI N)
  refine bodyPost_ret (results_cell_row rfl _ _ w.heap.size 197 #[aB p,vI S,vI R,vI Q,vI P,vI O,vI N] (0,0) _ rfl l Tryz.underlying197 rfl lq) rfl ⟨?_,hB⟩
  rw[HX.out]
end
end
section
theorem oG:(Tryz.prog.info? 197).map (fun i=>(i.zero,i.size,i.bytes))=some (some (.agg #[aB 0,.nilIface,.nilIface,.nilIface,.nilIface,.nilIface,.nilIface]),7,104):=by kernel_rfl
section
variable {w:World} {B bu bm bt bs bF g n c:Nat} {s:Fs} {e:Tu} {fv:Value} {t:List Fm} {p:Int}
theorem zW(t:List Fm)(f:Fm):eX (t++[f])=eX t++qM f:=by simp[eX]
theorem oT{vs:List Vl}(h:vs.length<=6):(rK vs).length=6:=by simp[rK];omega
theorem TC.pushed{v:World}{D:Option Addr}{f:Fm}{S:Array Value}(h:TC w B bu bm bt bs s e fv t)(V:B<=bt)(R:B<=w.heap.size)(Q:f.lo.length=6)(T:t.length< 6)(N:v.ownsRow B 197 7 (.slice D (t.length+1) b) (t.length+1) (eX t++qM f))(hg:(w.alloc (.cells S 197)).grownBy v fv.ownBlock):
  v.cell? (Ad bt 0)=some fv/\v.frozen? (Ad bt 0)=false/\v.cell? (Ad bu 1)=some (aF bt)/\TC (v.setCell ⟨bt,0,none⟩ (.slice D (t.length+1) b)) B bu bm bt bs s e (.slice D (t.length+1) b) (t++[f])/\aC (fun i=>aT fv i\/i=bt) w (v.setCell ⟨bt,0,none⟩ (.slice D (t.length+1) b)):=by
 have H:aC (aT fv) w v:=((aC.refl (aT fv) w).alloc _).grown hg (fun k P=>.inl P)
 have L:¬aT fv bt:=dE h.th.row h.th.hd (by decide)
 have C:=(H.block bt (aA h.th.hd).lt L).trans h.th.hd
 have O:=aA C
 have G:aC (aK bt) v (v.setCell (Ad bt 0) (.slice D (t.length+1) b)):=(aC.refl _ _).set1 _ _
 have A:=(H.block bu (aA h.tu).lt h.no).trans h.tu
 have J:=(G.block bu (aA A).lt (fun e=>h.nt (Eq.symm e))).trans A
 have M:¬aT (.slice D (t.length+1) b) bt:=dE N C (by decide)
 refine⟨O.cell 0,O.fz 0,(aA A).cell 1,⟨J,(h.st.kept H (fun i F=>my h.th.row F)).kept G (fun i F=>by have F:i=bt:=F;omega),⟨?_,?_,?_,?_⟩,by simp,h.le⟩,(H.mono (fun i h=>.inl h)).trans (G.mono (fun i h=>.inr h))⟩
 ·intro x E
  rcases List.mem_append.1 E with E|E
  ·exact h.th.ok x E
  ·simp at E;subst E;exact Q
 ·rw[heap_setCell C];rfl
 ·rw[List.length_append,List.length_singleton,zW]
  exact ig N G (fun i F K=>by have K:i=bt:=K;subst K;exact M F)
 ·simp;omega
theorem JE(h:TC w B bu bm bt bs s e fv t)(c0:w.cell? (Ad bm 0)=some (aF bF))(c1:w.cell? (Ad bF 0)=some (.slice (some (Ad g 0)) n c))(z:s.p.nn< n)(c2:w.cell? (Ad g s.p.nn)=some (aB p))(hm:∀a∈s.r,a.num< 6)(y:s.r.length<=6)(ht:t.length< 6)(hB:B<=bt)(a0:B<=w.heap.size):
  Calls Tryz.prog 172 #[aF bu] w fun q w'=>q=.returned (.bool true)/\∃Z,TC w' B bu bm bt bs s e Z (t++[⟨p,rK (s.r.map (cD (cJ t)))⟩])/\aC (fun i=>aT fv i\/i=bt) w w'/\∀i,aT Z i->aT fv i\/w.heap.size<=i:=by
 obtain⟨i0,l,v,o,m⟩:=pZ oG
 obtain⟨f,X⟩:=bM (⟨p,rK (s.r.map (cD (cJ t)))⟩:Fm)
 rw[<-X]
 have J:f.lo.length=6:=by rw[X];exact oT (by rw[List.length_map];exact y)
 obtain⟨T,S,R,Q,P,O,x⟩:∃T S R Q P O:Vl,f=⟨p,[T,S,R,Q,P,O]⟩:=by
  rw[X]at J⊢
  match rK (s.r.map (cD (cJ t))),J with
  |[a,b,c,d,e,g],_=>exact⟨_,_,_,_,_,_,rfl⟩
 have HG:Hid (∀k,Ca 244 #[aF bu] (w.drewN k) (Rt w (.agg #[aB p,vI T,vI S,vI R,vI Q,vI P,vI O]))):=fun k=>by
  have:=yA (w:=w.drewN k) (h.below (aR (Below.refl _ _) k)) c0 c1 z c2 hm y
  rw[CB (oT (by rw[List.length_map];exact y)),<-X,x]at this
  exact this.mono (fun q w' N=>⟨N.1,⟨N.2.os,N.2.tape,N.2.output,N.2.size,N.2.block⟩⟩)
 have Y:=aA h.tu
 have b1:Ce w bu 1 (aF bt):=Y.cell 1
 have t0:Ce w bt 0 fv:=h.th.cell
 obtain⟨pf,L,rfl⟩:=aI h.th.row
 have h6:((t.length:Int)==6)=false:=by simp;omega
 obtain⟨HC,HX⟩:=aN h x
 have a1:Hid (∀W,Bw w W->Ce W bu 1 (aF bt)/\Ce W bt 0 (.slice pf t.length L)):=fun W k=>⟨bc k b1,bc k t0⟩
 have a2:Hid (∀D E F cs,Bw w D->E.ownsRow B 197 7 F (t.length+1) (eX t++[aB p,vI T,vI S,vI R,vI Q,vI P,vI O])->(D.alloc (.cells cs 197)).grownBy E (Value.slice pf t.length L).ownBlock->(F.ownBlock=(Value.slice pf t.length L).ownBlock\/F.ownBlock=some (D.alloc (.cells cs 197)).heap.size)->Ce E bt 0 (.slice pf t.length L)/\E.frozen? (Ad bt 0)=false/\Ce E bu 1 (aF bt)/\Hid (TC (E.setCell (Ad bt 0) F) B bu bm bt bs s e F (t++[f])/\aC (fun i=>aT (.slice pf t.length L) i\/i=bt) w (E.setCell (Ad bt 0) F)/\∀i,aT F i->aT (.slice pf t.length L) i\/w.heap.size<=i)):=fun D E F cs j ho hg V=>by
  obtain⟨p4,k4,rfl⟩:=aI ho
  obtain⟨y1,y2,y0,y3,y4⟩:=(HC.below j).pushed hB (Nat.le_trans a0 j.size) J ht (by rw[HX.out];exact ho) hg
  refine⟨y1,y2,y0,y3,(aC.of_below j).trans y4,fun i l=>?_⟩
  rcases V with V|V
  ·exact .inl (V.symm.trans l)
  ·have:=Option.some.inj (V.symm.trans l)
   have:=j.size
   simp at *
   omega
 have H:∀W,Bw w W->W.ownsRow B 197 7 (.slice pf t.length L) t.length (eX t):=fun W k=>(HC.th.below k).row
 have HO:=aG H
 have a3:t.length< 6:=ht
 unfold vI at HG
 clear h Y x H X
 go_in
 go_wp2_with fail
 go_region_law (first|(refine bD rfl (.tmp 22) (.tmp 25) 199 rfl B 197 i0 (.agg #[aB 0,.nilIface,.nilIface,.nilIface,.nilIface,.nilIface,.nilIface]) 7 104 Tryz.underlying199 l v o m rfl (by decide) _ _ _ (by simp[Act.eval,Act.put]) ((HO D M).alloc _) (Ad D.heap.size 0) 1 1 [aB p,vI T,vI S,vI R,vI Q,vI P,vI O] (by simp[Act.eval,Act.put]) rfl (cF _ _ _ _ (by simp)) (by intro u hu;simp at hu;rcases hu with rfl|rfl|rfl|rfl|rfl|rfl|rfl<;>rfl) (by decide) (by unfold maxLen;omega) (by omega) (by have:=M.size;simp;omega) ?_;intro F E A C G;obtain⟨f1,f2,f3,HF⟩:=a2 D E F _ M A C G;obtain⟨p4,k4,rfl⟩:=aI A;clear A C G)|(go_simp;go_at_call 244;refine(HG 1).mono ?_;rintro q D ⟨rfl,K⟩;have M:=aG K;obtain⟨e1,e2⟩:=a1 D K;have l1:bu< D.heap.size:=aD e1;have l2:bt< D.heap.size:=aD e2;clear K;try go_wp2_with fail))
 all_goals go_wp2_with fail
 all_goals go_ret
 all_goals exact⟨rfl,_,HF⟩
end
end
section
theorem xj{e size:Nat}{p:Option Addr}{C:List Value}(h:w.ownsRow B e size (.slice p (n+1) c) (n+1) C):w.ownsRow B e size (.slice p n c) n (C.take (n*size)):=by
 have L:=h.1
 rcases h.2 with⟨D,K⟩|⟨g,cap,A,D,F,hg,M,J,H,G⟩
 ·cases K
 ·cases D
  have E:n*size<=(n+1)*size:=Nat.mul_le_mul_right _ (by omega)
  refine⟨by rw[List.length_take];omega,.inr ⟨g,_,A,rfl,F,hg,by omega,J,H,?_⟩⟩
  rw[<-G,List.take_take,Nat.min_eq_left E]
theorem sY{e size:Nat}{p:Option Addr}{C:List Value}(h:w.ownsRow B e size (.slice p n c) n C):n<=c:=by
 rcases h.2 with⟨A,K⟩|⟨g,cap,E,A,F,hg,D,J,H,G⟩
 ·cases A;omega
 ·cases A;exact D
theorem CE{t:List Fm}(h:wu t)(A:k<=t.length):(eX t).take (k*7)=eX (t.take k):=by
 have e:eX t=eX (t.take k)++eX (t.drop k):=by
  unfold eX
  rw[<-List.flatMap_append,List.take_append_drop]
 have C:(eX (t.take k)).length=k*7:=by
  rw[Fi (fun f B=>h f (List.mem_of_mem_take B)),List.length_take,Nat.min_eq_left A]
 rw[e,List.take_append_of_le_length (by omega),List.take_of_length_le (by omega)]
section
variable {w:World} {B bu bm bt bF:Nat} {q:Value} {x1 x2 x3:Int} {e:Tu} {fv:Value} {t:List Fm} {v:Vl}
theorem cN.pop(h:cN w B bt (.slice (some (Ad g 0)) (k+1) c) t)(E:t.length=k+1):cN (w.setCell ⟨bt,0,none⟩ (.slice (some ⟨g,0,none⟩) k c)) B bt (.slice (some (Ad g 0)) k c) t.dropLast:=by
 have J:g≠bt:=fun e=>by
  subst e
  exact dE h.row h.hd (by decide) rfl
 have D:=h.row
 rw[E]at D
 have H:=xj D
 have G:aC (aK bt) w (w.setCell (Ad bt 0) (.slice (some (Ad g 0)) k c)):=(aC.refl _ _).set1 _ _
 have C:t.dropLast=t.take k:=by rw[List.dropLast_eq_take,E,Nat.add_sub_cancel]
 have A:(t.take k).length=k:=by rw[List.length_take];omega
 refine⟨fun f F=>h.ok f (by rw[C]at F;exact List.mem_of_mem_take F),by rw[heap_setCell h.hd];rfl,?_,by rw[C,A];have:=h.len;omega⟩
 rw[C,A,<-CE h.ok (by omega)]
 exact ig H G (fun i K e=>by have e:i=bt:=e;have:=Option.some.inj (show some g=some i from K);omega)
theorem GD(E:w.heap[bu]?=some (.cells (lQ bm bt q x1 x2 x3 e) 267 (0,0)))(D:cN w B bt fv t)(P:t.length=1):
  Calls Tryz.prog 113 #[aF bu,vI v] w fun r w'=>r=.returned (.tuple #[])/\∃H,cN w' B bt H []/\w'.heap[bu]?=some (.cells (lQ bm bt q x1 x2 x3 e) 267 (0,0))/\aC (aK bt) w w'/\∀i,aT H i->aT fv i:=by
 have M:t≠[]:=by intro e;subst e;cases P
 obtain⟨g,k,c,Q,rfl,V,Y,F,O⟩:=D.open M
 have N:k=0:=by omega
 subst N
 have A:=D.row
 rw[Q]at A
 have Z:=sY A
 have o:Ce w bu 1 (aF bt):=(aA E).cell 1
 have j:Ce w bt 0 (.slice (some (Ad g 0)) 1 c):=D.cell
 have d:w.frozen? (Ad bt 0)=false:=(aA D.hd).fz 0
 have h:(0:Int)<=c:=by omega
 have f:(1:Int)<=c:=by omega
 have L:¬bu=bt:=fun e=>by
  have:=D.hd
  rw[<-e,E]at this
  simp at this
 have G:=D.pop Q
 have R:t.dropLast=[]:=by rw[List.dropLast_eq_take,P];simp
 rw[R]at G
 obtain⟨W,J⟩:=bM (w.setCell (Ad bt 0) (.slice (some (Ad g 0)) 0 c))
 have K:aC (aK bt) w W:=by rw[J];exact(aC.refl _ _).set1 _ _
 rw[<-J]at G
 have S:=mw (w:=W.drew) (bt:=bt) (n:=0) (c:=c) (pf:=some (Ad g 0)) G.cell
 have C:Hid (cN W B bt (.slice (some (Ad g 0)) 0 c) []/\W.heap[bu]?=some (.cells (lQ bm bt q x1 x2 x3 e) 267 (0,0))/\aC (aK bt) w W):=⟨G,(K.block bu (aA E).lt (fun e=>L e)).trans E,K⟩
 have m:Ce W bu 1 (aF bt):=(aA C.2.1).cell 1
 obtain⟨b,a⟩:=aN S J
 unfold vI
 clear E D F O A G K J S R
 go_in
 go_wp2_with fail
 go_region
 all_goals
  rw[<-a.out]
  go_wp2_with fail
  refine b.mono ?_
  rintro r T ⟨rfl,l⟩
  subst T
  go_wp2_with fail
  refine bodyPost_ret (results_none rfl _ _ _) rfl ?_
  exact⟨rfl,_,C.1.below (Below.refl _ W).drew,C.2.1,⟨C.2.2.os,C.2.2.tape,C.2.2.output,C.2.2.size,C.2.2.block⟩,fun i X=>X⟩
end
end
end Go.Proofs.YtajfbbldaiaolaaGreatDoor
