import Derived.WalkKit
import Derived.Test.YtajfbbldaiaolaaGreatDoorProg
import Derived.BigQuiet
import Derived.Deep.Cut
import Derived.Deep.CutBlock
import Derived.Deep.DeepCutAuto
import Derived.Deep.LoopGhost
import Derived.Deep.QuietTactic
import Derived.Deep.RegionLaw
import Derived.Deep.RegionWith
import Derived.Lib.Strings
import Derived.WalkLawsBesides
import Derived.WalkSmall
import Derived.WalkSpells
import Derived.Shelf.Small.Strs
import Derived.Shelf.Strconv.Atoi
import Derived.Shelf.LaysM
import Derived.Shelf.Strconv.Clone
import Derived.Shelf.Strings.Search1
import Derived.Shelf.Strings.Prefix
set_option linter.unusedSimpArgs false
set_option linter.unusedVariables false
namespace Go.Proofs.YtajfbbldaiaolaaGreatDoor
variable {B e k n:Nat}{a b c w:World}{v:Value}
section
open Go.RowKit
abbrev Ad(b o:Nat):Addr:=⟨b,o,none⟩
abbrev Pt(b o:Nat):Value:=.pointer (some ⟨b,o,none⟩)
abbrev Ce(w:World)(b o:Nat)(v:Value):Prop:=w.cell? ⟨b,o,none⟩=some v
abbrev aB(n:Int):Value:=.int .i64 n
abbrev aH(n:Int):Value:=.int .u64 n
abbrev Bw(w w':World):Prop:=Below w.heap.size w w'
abbrev Et(f:Nat):Prop:=∀args w,(callFunc f args).run Tryz.prog w=.ok (.enter f args) w
abbrev Rt(w:World)(v:Value):Ending->World->Prop:=fun r w'=>r=.returned v/\Below w.heap.size w w'
abbrev Ca:=Calls Tryz.prog
abbrev Ru(w:World)(v:Value):Ending->World->Prop:=fun r w'=>r=.returned v/\w'=w
theorem bM{α:Type}(x:α):∃y,y=x:=⟨x,rfl⟩
theorem aN{p q:Prop}(h0:p)(h1:q):Hid p/\Hid q:=⟨h0,h1⟩
theorem bY{p q r:Prop}(h0:p)(h1:q)(h2:r):Hid p/\Hid q/\Hid r:=⟨h0,h1,h2⟩
theorem fK{p q r s:Prop}(h0:p)(h1:q)(h2:r)(h3:s):Hid p/\Hid q/\Hid r/\Hid s:=⟨h0,h1,h2,h3⟩
theorem ma{p q r s t:Prop}(h0:p)(h1:q)(h2:r)(h3:s)(h4:t):Hid p/\Hid q/\Hid r/\Hid s/\Hid t:=⟨h0,h1,h2,h3,h4⟩
theorem vp{p q r s t u:Prop}(h0:p)(h1:q)(h2:r)(h3:s)(h4:t)(h5:u):Hid p/\Hid q/\Hid r/\Hid s/\Hid t/\Hid u:=⟨h0,h1,h2,h3,h4,h5⟩
theorem In{p q r s t u v:Prop}(h0:p)(h1:q)(h2:r)(h3:s)(h4:t)(h5:u)(h6:v):Hid p/\Hid q/\Hid r/\Hid s/\Hid t/\Hid u/\Hid v:=⟨h0,h1,h2,h3,h4,h5,h6⟩
theorem LR{p q r s t u v x:Prop}(h0:p)(h1:q)(h2:r)(h3:s)(h4:t)(h5:u)(h6:v)(h7:x):Hid p/\Hid q/\Hid r/\Hid s/\Hid t/\Hid u/\Hid v/\Hid x:=⟨h0,h1,h2,h3,h4,h5,h6,h7⟩
theorem xA{p q r s t u v x y:Prop}(h0:p)(h1:q)(h2:r)(h3:s)(h4:t)(h5:u)(h6:v)(h7:x)(h8:y):Hid p/\Hid q/\Hid r/\Hid s/\Hid t/\Hid u/\Hid v/\Hid x/\Hid y:=⟨h0,h1,h2,h3,h4,h5,h6,h7,h8⟩
theorem gl{α:Type}{a:Array α}{i:Nat}{x:α}(h:a[i]?=some x):i< a.size:=(Array.getElem?_eq_some_iff.1 h).1
theorem ba(w:World)(o:Obj):Below w.heap.size w (w.alloc o):=(Below.refl _ w).alloc (Nat.le_refl _) o
end
section
open Go.RowKit
theorem aG{p:Prop}(h:p):Hid p:=h
structure aC(S:Nat->Prop)(w w':World):Prop where
 os:w'.os=w.os
 tape:w'.tape=w.tape
 output:w'.output=w.output
 size:w.heap.size<=w'.heap.size
 block:∀k,k< w.heap.size->¬S k->w'.heap[k]?=w.heap[k]?
theorem aC.refl(S:Nat->Prop)(w:World):aC S w w:=⟨rfl,rfl,rfl,Nat.le_refl _,fun _ _ _=>rfl⟩
theorem aC.trans{S:Nat->Prop}(h:aC S a b)(k:aC S b c):aC S a c:=
 ⟨k.os.trans h.os,k.tape.trans h.tape,k.output.trans h.output,Nat.le_trans h.size k.size,fun i hi hs=>(k.block i (Nat.lt_of_lt_of_le hi h.size) hs).trans (h.block i hi hs)⟩
theorem aC.trans'{S T:Nat->Prop}(h:aC S a b)(k:aC T b c)(hst:∀i,T i->S i\/a.heap.size<=i):aC S a c:=
 ⟨k.os.trans h.os,k.tape.trans h.tape,k.output.trans h.output,Nat.le_trans h.size k.size,fun i hi hs=>(k.block i (Nat.lt_of_lt_of_le hi h.size) (fun ht=>by rcases hst i ht with x|x;exact hs x;omega)).trans (h.block i hi hs)⟩
theorem aC.mono{S T:Nat->Prop}(h:aC S a b)(hst:∀i,S i->T i):aC T a b:=⟨h.os,h.tape,h.output,h.size,fun i hi hs=>h.block i hi (fun x=>hs (hst i x))⟩
theorem aC.below{S:Nat->Prop}(h:aC S a b)(k:Below b.heap.size b c):aC S a c:=
 ⟨k.os.trans h.os,k.tape.trans h.tape,k.output.trans h.output,Nat.le_trans h.size k.size,fun i hi hs=>(k.block i (Nat.lt_of_lt_of_le hi h.size)).trans (h.block i hi hs)⟩
theorem aC.drew{S:Nat->Prop}(h:aC S a b):aC S a b.drew:=⟨h.os,h.tape,h.output,h.size,h.block⟩
theorem aC.alloc{S:Nat->Prop}(h:aC S a b)(o:Obj):aC S a (b.alloc o):=
 h.below ((Below.refl _ _).alloc (Nat.le_refl _) o)
theorem aC.setCell{S:Nat->Prop}(h:aC S a b){p:Addr}(hp:S p.block\/a.heap.size<=p.block)(u:Value):aC S a (b.setCell p u):=
 ⟨h.os,h.tape,h.output,by simpa[World.setCell]using h.size,fun k hk hs=>by rw[Below.heap_setCell _ _ _ _ (by intro e;subst e;rcases hp with x|x;exact hs x;omega)];exact h.block k hk hs⟩
theorem aC.grown{S:Nat->Prop}{w':World}{row:Option Nat}(h:aC S a w)(hg:w.grownBy w' row)(hr:∀k,row=some k->S k\/a.heap.size<=k):aC S a w':=
 ⟨hg.os.trans h.os,hg.tape.trans h.tape,hg.output.trans h.output,Nat.le_trans h.size hg.size,fun k hk hs=>(hg.block k (Nat.lt_of_lt_of_le hk h.size) (fun e=>by rcases hr k e.symm with x|x;exact hs x;omega)).trans (h.block k hk hs)⟩
theorem aC.cell{S:Nat->Prop}{w':World}(h:aC S w w'){p:Addr}(hp:p.block< w.heap.size)(hs:¬S p.block):w'.cell? p=w.cell? p:=World.cell?_of_block (h.block p.block hp hs)
theorem aC.frozen{S:Nat->Prop}{w':World}(h:aC S w w'){p:Addr}(hp:p.block< w.heap.size)(hs:¬S p.block):w'.frozen? p=w.frozen? p:=World.frozen?_of_block (h.block p.block hp hs)
theorem aC.of_below{S:Nat->Prop}{w':World}(h:Below w.heap.size w w'):aC S w w':=(aC.refl S w).below h
theorem aC.to_below{w':World}(h:aC (fun _=>False) w w'):Below w.heap.size w w':=⟨h.os,h.tape,h.output,h.size,fun k hk=>h.block k hk (fun x=>x)⟩
theorem aD{a:Addr}(h:w.cell? a=some v):a.block< w.heap.size:=by
 rcases Nat.lt_or_ge a.block w.heap.size with x|x
 ·exact x
 ·unfold World.cell? at h;rw[Array.getElem?_eq_none x]at h;cases h
def aK(b:Nat):Nat->Prop:=fun k=>k=b
theorem aC.set1{b:Nat}(h:aC (aK b) a w)(off:Nat)(u:Value):aC (aK b) a (w.setCell ⟨b,off,none⟩ u):=h.setCell (p:=⟨b,off,none⟩) (Or.inl rfl) u
theorem bc{w':World}{b o:Nat}(k:Below w.heap.size w w')(h:w.cell? ⟨b,o,none⟩=some v):w'.cell? ⟨b,o,none⟩=some v:=(k.cell (p:=⟨b,o,none⟩) (aD h)).trans h
theorem kc{w':World}{a b o:Nat}(k:aC (aK b) w w')(h:w.cell? ⟨a,o,none⟩=some v)(hn:a≠b):w'.cell? ⟨a,o,none⟩=some v:=(k.cell (p:=⟨a,o,none⟩) (aD h) hn).trans h
end
abbrev aJ:=List UInt8
def ou(c:UInt8):Bool:=decide (97<=c.toNat)&&decide (c.toNat<=122)
def dR(c:UInt8):Bool:=decide (48<=c.toNat)&&decide (c.toNat<=57)
def eQ(c:UInt8):Bool:=ou c||dR c
def jL(c:UInt8):Bool:=c.toNat==32||c.toNat==10
def cQ(p:UInt8->Bool)(l:aJ)(i:Nat):Nat:=((l.drop i).takeWhile p).length
theorem uF(p:UInt8->Bool)(l:aJ)(i k:Nat)(hk:i+k<=l.length)(h:∀j,j< k->∀h:i+j< l.length,p l[i+j]=true)(hend:∀h:i+k< l.length,p l[i+k]=false):cQ p l i=k:=by
 induction k generalizing i with
 |zero=>
  unfold cQ
  by_cases hi:i< l.length
  ·have:=hend hi
   rw[List.drop_eq_getElem_cons hi]
   simp only[Nat.add_zero]at this
   rw[List.takeWhile_cons,if_neg (by simp[this])];rfl
  ·rw[List.drop_eq_nil_of_le (by omega)];rfl
 |succ k ih=>
  have hi:i< l.length:=by omega
  have h0:=h 0 (by omega) hi
  have:=ih (i+1) (by omega) (fun j hj hl=>by have:=h (j+1) (by omega) (by omega);simpa[Nat.add_assoc,Nat.add_comm 1 j]using this) (fun hl=>by have:=hend (by omega);simpa[Nat.add_assoc,Nat.add_comm 1 k]using this)
  unfold cQ at *
  rw[List.drop_eq_getElem_cons hi]
  simp only[Nat.add_zero]at h0
  rw[List.takeWhile_cons,if_pos h0,List.length_cons,this]
theorem jj(p:UInt8->Bool)(l:aJ)(i:Nat)(hi:i<=l.length):i+cQ p l i<=l.length:=by
 have:cQ p l i<=(l.drop i).length:=(List.takeWhile_sublist p).length_le
 simp at this;omega
structure bB where
 k:Nat
 text:aJ
 at_:Nat
 e:Nat
def sub(l:aJ)(i n:Nat):aJ:=(l.drop i).take n
def Bj:aJ:=[59,123,125,40,41,44,46,43,45,60,61]
def oN:aJ:=[32,118,97,114,32,109,117,116,101,120,32,102,117,110,99,32,108,111,99,107,32,117,110,108,111,99,107,32,106,111,105,110,32,114,101,116,117,114,110,32,105,102,32,101,108,115,101,32,119,104,105,108,101,32,103,111,32,110,101,119,32]
def ik(c:UInt8):Bool:=decide (c∈Bj)
def jO(t:aJ):Bool:=(List.range 62).any fun i=>decide (i+(t.length+2)<=61)&&(sub oN i (t.length+2)==32::(t++[32]))
def fG(l:aJ)(i:Nat):bB:=
 match l[i]? with
 |none=>⟨36,[],i,0⟩
 |some c=>
  if dR c then(if 6< cQ dR l i then⟨120,[],i,4⟩else⟨110,sub l i (cQ dR l i),i,0⟩)
  else if eQ c then
   (if 6< cQ eQ l i then⟨120,[],i,3⟩else if jO (sub l i (cQ eQ l i))then⟨107,sub l i (cQ eQ l i),i,0⟩else⟨97,sub l i (cQ eQ l i),i,0⟩)
  else if ik c then
   (if sub l i 2==[61,61]then⟨115,[61,61],i,0⟩else⟨115,[c],i,0⟩)
  else⟨120,[],i,2⟩
def fa(l:aJ)(i:Nat):Nat:=i+cQ jL l i
def ej(t:bB):Bool:=t.k==36||t.k==120
def yN(l:aJ)(t:bB):bB:=fG l (fa l (t.at_+t.text.length))
theorem ji(l:aJ)(i:Nat)(h:i<=l.length):fa l i<=l.length:=jj _ _ _ h
theorem tp(l:aJ)(i:Nat):(fG l i).at_=i:=by
 unfold fG
 split
 ·rfl
 ·repeat' split
  all_goals rfl
theorem lH(p:UInt8->Bool)(l:aJ)(i:Nat)(c:UInt8)(h:l[i]?=some c)(hp:p c=true):1<=cQ p l i:=by
 unfold cQ
 obtain⟨hi,e⟩:=List.getElem?_eq_some_iff.1 h
 rw[List.drop_eq_getElem_cons hi,List.takeWhile_cons,e,if_pos hp]
 simp
theorem gj(l:aJ)(i n:Nat)(h:i+n<=l.length):(sub l i n).length=n:=by simp[sub];omega
theorem mY(l:aJ)(i:Nat)(hi:i<=l.length)(h:ej (fG l i)=false):1<=(fG l i).text.length/\i+(fG l i).text.length<=l.length:=by
 unfold fG at h⊢
 cases hg:l[i]? with
 |none=>rw[hg]at h;simp[ej]at h
 |some c=>
  rw[hg]at h
  obtain⟨hlt,_⟩:=List.getElem?_eq_some_iff.1 hg
  have hr1:=jj dR l i hi
  have hr2:=jj eQ l i hi
  simp only at h⊢
  by_cases h1:dR c=true
  ·have hp:=lH dR l i c hg h1
   by_cases h2:6< cQ dR l i
   ·simp[h1,h2,ej]at h
   ·simp only[h1,h2,if_true,if_false]
    rw[gj _ _ _ hr1];exact⟨hp,hr1⟩
  ·by_cases h3:eQ c=true
   ·have hp:=lH eQ l i c hg h3
    by_cases h2:6< cQ eQ l i
    ·simp[h1,h2,h3,ej]at h
    ·by_cases h4:jO (sub l i (cQ eQ l i))=true
     ·simp only[h1,h2,h3,h4,if_true,if_false]
      simp only[Bool.false_eq_true,if_false]
      rw[gj _ _ _ hr2];exact⟨hp,hr2⟩
     ·simp only[h1,h2,h3,h4,if_true,if_false]
      simp only[Bool.false_eq_true,if_false]
      rw[gj _ _ _ hr2];exact⟨hp,hr2⟩
   ·by_cases h5:ik c=true
    ·by_cases h6:(sub l i 2==[61,61])=true
     ·have:(sub l i 2).length=2:=by rw[beq_iff_eq.1 h6];rfl
      simp[sub]at this
      simp only[h1,h3,h5,h6,if_true,if_false,Bool.false_eq_true]
      simp;omega
     ·simp only[h1,h3,h5,h6,if_true,if_false,Bool.false_eq_true]
      simp;omega
    ·simp[h1,h3,h5,ej]at h
inductive AA(l:aJ):List bB->Nat->Prop
 |nil:AA l [] 0
 |snoc {ts:List bB} {n:Nat}:AA l ts n->ej (fG l (fa l n))=false->AA l (ts++[fG l (fa l n)]) ((fG l (fa l n)).at_+(fG l (fa l n)).text.length)
def tZ(l:aJ)(ts:List bB):Prop:=∃ts0 n,AA l ts0 n/\ej (fG l (fa l n))=true/\ts=ts0++[fG l (fa l n)]
theorem AA.le{l:aJ}{ts:List bB}(h:AA l ts n):n<=l.length/\ts.length<=n:=by
 induction h with
 |nil=>simp
 |snoc hp hf ih=>
  have h1:=mY l _ (ji l _ ih.1) hf
  rw[tp]
  have h2:∀n,n<=fa l n:=fun n=>Nat.le_add_right _ (cQ jL l n)
  constructor
  ·exact h1.2
  ·simp only[List.length_append,List.length_cons,List.length_nil]
   rename_i ts n
   have:=h2 n
   omega
theorem AA.get{l:aJ}{ts:List bB}(h:AA l ts n):∀k t,ts[k]?=some t->ej t=false/\(ts++[fG l (fa l n)])[k+1]?=some (yN l t):=by
 induction h with
 |nil=>intro k t h;simp at h
 |@snoc ts n hp hf ih=>
  intro k t hk
  by_cases e:k< ts.length
  ·rw[List.getElem?_append_left e]at hk
   obtain⟨h1,h2⟩:=ih k t hk
   refine⟨h1,?_⟩
   rw[List.getElem?_append_left (by simp;omega)]
   exact h2
  ·have:k=ts.length:=by
    have:=(List.getElem?_eq_some_iff.1 hk).1
    simp at this;omega
   subst this
   simp at hk
   subst hk
   refine⟨hf,?_⟩
   rw[List.getElem?_append_right (by simp)]
   simp[yN]
theorem AA.first{l:aJ}{ts:List bB}(h:AA l ts n):(ts++[fG l (fa l n)])[0]?=some (fG l (fa l 0)):=by
 induction h with
 |nil=>rfl
 |@snoc ts n hp hf ih=>
  rw[List.getElem?_append_left (by simp)]
  exact ih
structure ga(l:aJ)(ts:List bB):Prop where
 first:ts[0]?=some (fG l (fa l 0))
 next:∀k t,ts[k]?=some t->ej t=false->ts[k+1]?=some (yN l t)
 last:∀k t,ts[k]?=some t->ej t=true->k+1=ts.length
 len:ts.length<=l.length+1
theorem tZ.toks{l:aJ}{ts:List bB}(h:tZ l ts):ga l ts:=by
 obtain⟨ts0,n,hp,hf,rfl⟩:=h
 refine⟨hp.first,?_,?_,?_⟩
 ·intro k t hk hn
  by_cases e:k< ts0.length
  ·rw[List.getElem?_append_left e]at hk
   exact(hp.get k t hk).2
  ·rw[List.getElem?_append_right (by omega)]at hk
   have:=(List.getElem?_eq_some_iff.1 hk).1
   have hz:k-ts0.length=0:=by simp at this;omega
   rw[hz]at hk
   simp at hk
   subst hk
   rw[hf]at hn;cases hn
 ·intro k t hk hn
  by_cases e:k< ts0.length
  ·rw[List.getElem?_append_left e]at hk
   rw[(hp.get k t hk).1]at hn;cases hn
  ·have:=(List.getElem?_eq_some_iff.1 hk).1
   simp at this⊢;omega
 ·have:=hp.le
  simp;omega
structure V where
 i:Nat
 e:Nat
 a:Nat
instance:Inhabited bB:=⟨⟨0,[],0,0⟩⟩
def V.ok(v:V):Bool:=v.e==0
def V.flt(v:V)(e a:Nat):V:=if v.e=0 then{v with e:=e,a:=a}else v
def V.here(ts:List bB)(v:V):bB:=(ts[v.i]?).getD default
def V.on(ts:List bB)(v:V):V:=if v.e=0/\v.i+1< ts.length then{v with i:=v.i+1}else v
def V.go1(ts:List bB)(v:V):V:=if((v.on ts).here ts).k=120 then(v.on ts).flt ((v.on ts).here ts).e ((v.on ts).here ts).at_ else v.on ts
def V.at(ts:List bB)(v:V)(s:aJ):Bool:=((v.here ts).k==115||(v.here ts).k==107)&&(v.here ts).text==s
def V.must(ts:List bB)(v:V)(s:aJ):V:=((if v.at ts s then v else v.flt 5 (v.here ts).at_)).go1 ts
def V.bad(ts:List bB)(v:V)(num:Bool):Bool:=(v.here ts).k !=97&&!(num&&(v.here ts).k==110)
def V.named(ts:List bB)(num:Bool)(v:V):V:=(if v.bad ts num then v.flt 5 (v.here ts).at_ else v).go1 ts
theorem V.flt_i(v:V)(e a:Nat):(v.flt e a).i=v.i:=by unfold V.flt;split<;>rfl
theorem V.on_i(ts:List bB)(v:V):v.i<=(v.on ts).i:=by
 unfold V.on;split
 ·show v.i<=v.i+1;omega
 ·exact Nat.le_refl _
theorem V.go1_i(ts:List bB)(v:V):(v.go1 ts).i=(v.on ts).i:=by
 unfold V.go1;split
 ·rw[V.flt_i]
 ·rfl
theorem V.go1_le(ts:List bB)(v:V):v.i<=(v.go1 ts).i:=by rw[V.go1_i];exact V.on_i ts v
theorem V.named_le(ts:List bB)(v:V)(num:Bool):v.i<=(v.named ts num).i:=by
 unfold V.named
 refine Nat.le_trans ?_ (V.go1_le ts _)
 split
 ·rw[V.flt_i];exact Nat.le_refl _
 ·exact Nat.le_refl _
theorem V.at_open{ts:List bB}{v:V}{s:aJ}(h:v.at ts s=true):ej (v.here ts)=false:=by
 unfold V.at at h
 simp only[Bool.and_eq_true,Bool.or_eq_true,beq_iff_eq]at h
 unfold ej
 rcases h.1 with h|h<;>rw[h]<;>rfl
theorem V.on_next{l:aJ}{ts:List bB}{v:V}(G:ga l ts)(D:v.i< ts.length)(A:v.ok=true)(E:ej (v.here ts)=false):v.on ts={v with i:=v.i+1}:=by
 have hg:ts[v.i]?=some (v.here ts):=by unfold V.here;rw[List.getElem?_eq_getElem D];rfl
 have C:=G.next _ _ hg E
 have B:=(List.getElem?_eq_some_iff.1 C).1
 have F:v.e=0:=by simpa[V.ok]using A
 simp[V.on,F,B]
theorem V.must_at{l:aJ}{ts:List bB}{v:V}{s:aJ}(C:ga l ts)(B:v.i< ts.length)(A:v.ok=true)(h:v.at ts s=true):(v.must ts s).i=v.i+1:=by
 unfold V.must
 rw[if_pos h,V.go1_i,V.on_next C B A (V.at_open h)]
def V.listF(ts:List bB)(num:Bool):Nat->V->List bB×V
 |0,v=>([],v)
 |f+1,v=>if(v.named ts num).at ts [44]&&(v.named ts num).ok then(v.here ts::(V.listF ts num f ((v.named ts num).must ts [44])).1,(V.listF ts num f ((v.named ts num).must ts [44])).2)else([v.here ts],v.named ts num)
def V.listLoop(ts:List bB)(num:Bool)(v:V):List bB×V:=if v.at ts [41]then([],v)else V.listF ts num ts.length v
def V.list(ts:List bB)(num:Bool)(v:V):List bB×V:=((V.listLoop ts num (v.must ts [40])).1,(V.listLoop ts num (v.must ts [40])).2.must ts [41])
def dJ(ts:List bB)(num:Bool)(R:List bB×V)(acc:List bB)(v:V)(m:Bool):Prop:=
 if m then∃f,R=(acc++(V.listF ts num f v).1,(V.listF ts num f v).2)/\ts.length<=f+v.i/\acc.length<=v.i else R=(acc,v)/\acc.length<=v.i+1
theorem dJ.start(ts:List bB)(num:Bool)(v:V):dJ ts num (V.listLoop ts num v) [] v (!v.at ts [41]):=by
 unfold dJ V.listLoop
 cases v.at ts [41]
 ·simp;exact⟨ts.length,by simp,by omega⟩
 ·simp
theorem dJ.more{l:aJ}{ts:List bB}{num:Bool}{R:List bB×V}{B:List bB}{v:V}(E:ga l ts)(F:v.i< ts.length)(C:(v.named ts num).i< ts.length)(h:dJ ts num R B v true)(D:((v.named ts num).at ts [44]&&(v.named ts num).ok)=true):
  dJ ts num R (B++[v.here ts]) ((v.named ts num).must ts [44]) true/\v.i< ((v.named ts num).must ts [44]).i:=by
 simp only[dJ,if_true]at h⊢
 obtain⟨f,rfl,G,H⟩:=h
 have A:=D
 simp only[Bool.and_eq_true]at A
 have K:=V.must_at E C A.2 A.1
 have J:=V.named_le ts v num
 obtain⟨g,rfl⟩:∃g,f=g+1:=⟨f-1,by omega⟩
 refine⟨⟨g,?_,by omega,by simp;omega⟩,by omega⟩
 rw[V.listF,if_pos D]
 simp
theorem dJ.stop{ts:List bB}{num:Bool}{R:List bB×V}{A:List bB}{v:V}(C:v.i< ts.length)(h:dJ ts num R A v true)(B:((v.named ts num).at ts [44]&&(v.named ts num).ok)=false):
  dJ ts num R (A++[v.here ts]) (v.named ts num) false:=by
 simp only[dJ,if_true]at h
 obtain⟨f,rfl,D,E⟩:=h
 have F:=V.named_le ts v num
 obtain⟨g,rfl⟩:∃g,f=g+1:=⟨f-1,by omega⟩
 show _=_/\_<=_
 rw[V.listF,if_neg (by simp[B])]
 refine⟨rfl,?_⟩
 rw[List.length_append,List.length_singleton];omega
theorem dJ.len{ts:List bB}{num:Bool}{R:List bB×V}{A:List bB}{v:V}{m:Bool}(h:dJ ts num R A v m):A.length<=v.i+1:=by
 cases m
 ·simp only[dJ]at h;exact h.2
 ·simp only[dJ,if_true]at h;obtain⟨_,_,_,h⟩:=h;omega
def V.side(ts:List bB)(v:V):aJ×V:=
 (((v.go1 ts).here ts).text,if((v.go1 ts).here ts).text=[108]\/((v.go1 ts).here ts).text=[114]then(v.go1 ts).named ts false else((v.go1 ts).named ts false).flt 5 ((v.go1 ts).here ts).at_)
structure Hd where
 op:Nat:=0
 place:Nat:=0
 at_:Nat:=0
 mark:Nat:=0
 x:bB:=⟨0,[],0,0⟩
 y:bB:=⟨0,[],0,0⟩
 z:bB:=⟨0,[],0,0⟩
 f:bB:=⟨0,[],0,0⟩
 bin:aJ:=[]
 field:aJ:=[]
 args:List bB:=[]
 has:Bool:=false
inductive mD where
 |mk (h:Hd) (body et:List mD)
def Hd.sum(ts:List bB)(h:Hd)(v:V):Hd×V:=
 if(v.here ts).text=[43]\/(v.here ts).text=[45]\/(v.here ts).text=[60]\/(v.here ts).text=[61,61]then({h with bin:=(v.here ts).text,z:=(v.go1 ts).here ts},(v.go1 ts).named ts true)else(h,v)
def Hd.right(ts:List bB)(h:Hd)(v:V):Hd×V:=
 if v.at ts [110,101,119]then({h with mark:=(v.here ts).at_,op:=6},v.go1 ts)
 else if v.at ts [103,111]then({h with mark:=(v.here ts).at_,op:=7,f:=(v.go1 ts).here ts,args:=(V.list ts true ((v.go1 ts).named ts false)).1},(V.list ts true ((v.go1 ts).named ts false)).2)
 else if(v.named ts true).at ts [40]=true/\(v.here ts).k=97 then({h with mark:=(v.here ts).at_,op:=11,f:=v.here ts,y:=⟨0,[],0,0⟩,args:=(V.list ts true (v.named ts true)).1},(V.list ts true (v.named ts true)).2)
 else if(v.named ts true).at ts [46]=true/\(v.here ts).k=97 then({h with mark:=(v.here ts).at_,op:=4,y:=v.here ts,field:=(V.side ts (v.named ts true)).1},(V.side ts (v.named ts true)).2)
 else Hd.sum ts {h with mark:=(v.here ts).at_,op:=1,y:=v.here ts} (v.named ts true)
def Hd.simple(ts:List bB)(h:Hd)(v:V):Hd×V:=
 if(v.named ts false).at ts [40]then({h with op:=11,f:=v.here ts,args:=(V.list ts true (v.named ts false)).1},(V.list ts true (v.named ts false)).2)
 else if(v.named ts false).at ts [46]then
  ({h with x:=v.here ts,op:=5,field:=(V.side ts (v.named ts false)).1,y:=((V.side ts (v.named ts false)).2.must ts [61]).here ts},((V.side ts (v.named ts false)).2.must ts [61]).named ts true)
 else Hd.right ts {h with x:=v.here ts} ((v.named ts false).must ts [61])
structure PV where
 v:V
 ats:List Nat
def gn(ts:List bB)(d:Nat)(v:V):V:=(if v.at ts [123]&&decide (6<=d)then v.flt 6 (v.here ts).at_ else v).must ts [123]
def cH(ts:List bB)(body:Nat->PV->List mD×PV)(d:Nat)(pv:PV):List mD×PV:=
 ((body d ⟨gn ts d pv.v,pv.ats⟩).1,⟨(body d ⟨gn ts d pv.v,pv.ats⟩).2.v.must ts [125],(body d ⟨gn ts d pv.v,pv.ats⟩).2.ats⟩)
def eY(ts:List bB)(body:Nat->PV->List mD×PV)(d:Nat)(pv:PV):List mD×PV:=
 cH ts body (d+1) ⟨(pv.v.go1 ts).named ts true,pv.ats⟩
def ns(ts:List bB)(body:Nat->PV->List mD×PV)(d:Nat)(pv:PV):List mD×PV:=
 cH ts body (d+1) ⟨(eY ts body d pv).2.v.go1 ts,(eY ts body d pv).2.ats⟩
def jN(ts:List bB)(body:Nat->PV->List mD×PV)(d:Nat)(h:Hd)(pv:PV):mD×PV:=
 if(pv.v.here ts).text=[119,104,105,108,101]then(.mk {h with y:=(pv.v.go1 ts).here ts,op:=14} (eY ts body d pv).1 [],(eY ts body d pv).2)
 else if(eY ts body d pv).2.v.at ts [101,108,115,101]then(.mk {h with y:=(pv.v.go1 ts).here ts,op:=13,has:=true} (eY ts body d pv).1 (ns ts body d pv).1,(ns ts body d pv).2)
 else(.mk {h with y:=(pv.v.go1 ts).here ts,op:=13,has:=false} (eY ts body d pv).1 [],(eY ts body d pv).2)
def ow(pv:PV)(ts:List bB):Hd:={place:=pv.ats.length,at_:=(pv.v.here ts).at_,mark:=(pv.v.here ts).at_}
def fY(pv:PV)(ts:List bB):List Nat:=pv.ats++[(pv.v.here ts).at_]
def eS(ts:List bB)(body:Nat->PV->List mD×PV)(d:Nat)(pv:PV):mD×PV:=
 if(pv.v.here ts).text=[108,111,99,107]then(.mk {ow pv ts with op:=9,y:=(pv.v.go1 ts).here ts} [] [],⟨((pv.v.go1 ts).named ts false).must ts [59],fY pv ts⟩)
 else if(pv.v.here ts).text=[117,110,108,111,99,107]then(.mk {ow pv ts with op:=10,y:=(pv.v.go1 ts).here ts} [] [],⟨((pv.v.go1 ts).named ts false).must ts [59],fY pv ts⟩)
 else if(pv.v.here ts).text=[106,111,105,110]then(.mk {ow pv ts with op:=8,y:=(pv.v.go1 ts).here ts} [] [],⟨((pv.v.go1 ts).named ts false).must ts [59],fY pv ts⟩)
 else if(pv.v.here ts).text=[114,101,116,117,114,110]then
  (if(pv.v.go1 ts).at ts [59]then(.mk {ow pv ts with op:=12} [] [],⟨(pv.v.go1 ts).must ts [59],fY pv ts⟩)
  else(.mk {ow pv ts with op:=12,has:=true,y:=(pv.v.go1 ts).here ts} [] [],⟨((pv.v.go1 ts).named ts true).must ts [59],fY pv ts⟩))
 else if(pv.v.here ts).text=[105,102]\/(pv.v.here ts).text=[119,104,105,108,101]then jN ts body d (ow pv ts) ⟨pv.v,fY pv ts⟩
 else if(pv.v.here ts).text=[103,111]then
  (.mk {ow pv ts with op:=7,f:=(pv.v.go1 ts).here ts,args:=(V.list ts true ((pv.v.go1 ts).named ts false)).1} [] [],⟨(V.list ts true ((pv.v.go1 ts).named ts false)).2.must ts [59],fY pv ts⟩)
 else(.mk (Hd.simple ts (ow pv ts) pv.v).1 [] [],⟨(Hd.simple ts (ow pv ts) pv.v).2.must ts [59],fY pv ts⟩)
def aV(ts:List bB):Nat->Nat->PV->List mD×PV
 |0,_,pv=>([],pv)
 |f+1,d,pv=>if pv.v.at ts [125]||!pv.v.ok then([],pv)else
   ((eS ts (aV ts f) d pv).1::(aV ts f d (eS ts (aV ts f) d pv).2).1,(aV ts f d (eS ts (aV ts f) d pv).2).2)
theorem V.flt_ok{v:V}{a:Nat}(h:(v.flt e a).ok=true):v.ok=true:=by
 unfold V.flt at h
 split at h
 ·rename_i A;simp[V.ok,A]
 ·exact h
theorem V.flt_bad{v:V}{a:Nat}(A:e≠0):(v.flt e a).ok=false:=by
 unfold V.flt
 split
 ·simp[V.ok,A]
 ·rename_i B;simp[V.ok,B]
theorem V.on_ok(ts:List bB)(v:V):(v.on ts).ok=v.ok:=by unfold V.on;split<;>rfl
theorem V.go1_ok{ts:List bB}{v:V}(h:(v.go1 ts).ok=true):v.ok=true:=by
 unfold V.go1 at h
 split at h
 ·have:=V.flt_ok h;rwa [V.on_ok]at this
 ·rwa [V.on_ok]at h
theorem V.on_lt{ts:List bB}{v:V}(h:v.i< ts.length):(v.on ts).i< ts.length:=by
 unfold V.on;split
 ·rename_i x;exact x.2
 ·exact h
theorem V.go1_lt{ts:List bB}{v:V}(h:v.i< ts.length):(v.go1 ts).i< ts.length:=by rw[V.go1_i];exact V.on_lt h
structure dS(ts:List bB)(k:Nat)(v v':V):Prop where
 lt:v'.i< ts.length
 ok:v'.ok=true->v.ok=true/\v.i+k<=v'.i
theorem dS.refl{ts:List bB}{v:V}(h:v.i< ts.length):dS ts 0 v v:=⟨h,fun h=>⟨h,by omega⟩⟩
theorem dS.trans{ts:List bB}{j:Nat}{a b c:V}(h:dS ts j a b)(g:dS ts k b c):dS ts (j+k) a c:=
 ⟨g.lt,fun x=>by have B:=g.ok x;have A:=h.ok B.1;exact⟨A.1,by omega⟩⟩
theorem dS.weak{ts:List bB}{j:Nat}{a b:V}(h:dS ts j a b)(A:k<=j):dS ts k a b:=⟨h.lt,fun x=>⟨(h.ok x).1,by have:=(h.ok x).2;omega⟩⟩
theorem dS.flt{ts:List bB}{v:V}(e a:Nat)(h:v.i< ts.length):dS ts 0 v (v.flt e a):=⟨by rw[V.flt_i];exact h,fun x=>⟨V.flt_ok x,by rw[V.flt_i];omega⟩⟩
theorem dS.go0{ts:List bB}{v:V}(h:v.i< ts.length):dS ts 0 v (v.go1 ts):=⟨V.go1_lt h,fun x=>⟨V.go1_ok x,by have:=V.go1_le ts v;omega⟩⟩
theorem dS.go1{l:aJ}{ts:List bB}{v:V}(B:ga l ts)(h:v.i< ts.length)(A:ej (v.here ts)=false):dS ts 1 v (v.go1 ts):=
 ⟨V.go1_lt h,fun x=>⟨V.go1_ok x,by rw[V.go1_i,V.on_next B h (V.go1_ok x) A];exact Nat.le_refl _⟩⟩
theorem dS.must{l:aJ}{ts:List bB}{v:V}(s:aJ)(B:ga l ts)(h:v.i< ts.length):dS ts 1 v (v.must ts s):=by
 unfold V.must
 by_cases A:v.at ts s=true
 ·rw[if_pos A];exact dS.go1 B h (V.at_open A)
 ·rw[if_neg A]
  refine⟨V.go1_lt (by rw[V.flt_i];exact h),fun x=>?_⟩
  have:=V.go1_ok x
  rw[V.flt_bad (by decide)]at this;cases this
theorem dS.named{l:aJ}{ts:List bB}{v:V}(num:Bool)(B:ga l ts)(h:v.i< ts.length):dS ts 1 v (v.named ts num):=by
 unfold V.named
 by_cases A:v.bad ts num=true
 ·rw[if_pos A]
  refine⟨V.go1_lt (by rw[V.flt_i];exact h),fun x=>?_⟩
  have:=V.go1_ok x
  rw[V.flt_bad (by decide)]at this;cases this
 ·rw[if_neg A]
  refine dS.go1 B h ?_
  unfold V.bad at A
  unfold ej
  cases num<;>simp at A⊢<;>omega
theorem dS.listF{l:aJ}{ts:List bB}(num:Bool)(B:ga l ts)(f:Nat):∀v:V,v.i< ts.length->dS ts 0 v (V.listF ts num f v).2:=by
 induction f with
 |zero=>intro v h;exact dS.refl h
 |succ f ih=>
  intro v h
  have A:=dS.named num B h
  unfold V.listF
  split
  ·have C:=dS.must [44] B A.lt
   exact((A.trans C).trans (ih _ C.lt)).weak (by omega)
  ·exact A.weak (by omega)
theorem dS.list{l:aJ}{ts:List bB}{v:V}(num:Bool)(A:ga l ts)(h:v.i< ts.length):dS ts 2 v (V.list ts num v).2:=by
 have B:=dS.must [40] A h
 unfold V.list V.listLoop
 simp only
 split
 ·exact B.trans (dS.must [41] A B.lt)
 ·have C:=dS.listF num A ts.length _ B.lt
  exact(B.trans C).trans (dS.must [41] A C.lt)
theorem dS.side{l:aJ}{ts:List bB}{v:V}(B:ga l ts)(h:v.i< ts.length):dS ts 1 v (V.side ts v).2:=by
 have A:=(dS.go0 h).trans (dS.named false B (V.go1_lt h))
 unfold V.side
 simp only
 split
 ·exact A.weak (by omega)
 ·exact(A.trans (dS.flt _ _ A.lt)).weak (by omega)
theorem dS.sum{l:aJ}{ts:List bB}{v:V}(h:Hd)(B:ga l ts)(A:v.i< ts.length):dS ts 0 v (Hd.sum ts h v).2:=by
 unfold Hd.sum
 split
 ·exact((dS.go0 A).trans (dS.named true B (V.go1_lt A))).weak (by omega)
 ·exact dS.refl A
theorem dS.right{l:aJ}{ts:List bB}{v:V}(h:Hd)(B:ga l ts)(C:v.i< ts.length):dS ts 0 v (Hd.right ts h v).2:=by
 have hg:=dS.go0 C
 have A:=dS.named true B C
 unfold Hd.right
 split
 ·exact hg
 ·split
  ·have D:=dS.named false B hg.lt
   exact((hg.trans D).trans (dS.list true B D.lt)).weak (by omega)
  ·split
   ·exact(A.trans (dS.list true B A.lt)).weak (by omega)
   ·split
    ·exact(A.trans (dS.side B A.lt)).weak (by omega)
    ·exact(A.trans (dS.sum _ B A.lt)).weak (by omega)
theorem dS.simple{l:aJ}{ts:List bB}{v:V}(h:Hd)(A:ga l ts)(E:v.i< ts.length):dS ts 1 v (Hd.simple ts h v).2:=by
 have B:=dS.named false A E
 unfold Hd.simple
 split
 ·exact(B.trans (dS.list true A B.lt)).weak (by omega)
 ·split
  ·have D:=dS.side A B.lt
   have C:=dS.must [61] A D.lt
   exact(((B.trans D).trans C).trans (dS.named true A C.lt)).weak (by omega)
  ·have C:=dS.must [61] A B.lt
   exact((B.trans C).trans (dS.right _ A C.lt)).weak (by omega)
def Good(pv:PV):Prop:=pv.v.ok=true->pv.ats.length<=pv.v.i
def gB(ts:List bB)(body:Nat->PV->List mD×PV):Prop:=∀d pv,Good pv->pv.v.i< ts.length->Good (body d pv).2/\dS ts 0 pv.v (body d pv).2.v
theorem gB.block{l:aJ}{ts:List bB}{body:Nat->PV->List mD×PV}(D:ga l ts)(G:gB ts body)(d:Nat)(pv:PV)(hg:Good pv)(B:pv.v.i< ts.length):Good (cH ts body d pv).2/\dS ts 1 pv.v (cH ts body d pv).2.v:=by
 have E:dS ts 1 pv.v (gn ts d pv.v):=by
  unfold gn
  split
  ·exact(dS.flt 6 _ B).trans (dS.must _ D (by rw[V.flt_i];exact B))
  ·exact dS.must _ D B
 have C:Good ⟨gn ts d pv.v,pv.ats⟩:=fun x=>by
  have A:=E.ok x
  have:=hg A.1
  show pv.ats.length<=(gn ts d pv.v).i
  omega
 have A:=G d _ C E.lt
 have F:=dS.must [125] D A.2.lt
 refine⟨fun x=>?_,((E.trans A.2).trans F).weak (by omega)⟩
 have H:=F.ok x
 have:=A.1 H.1
 show _<=V.i (V.must ts _ [125])
 exact Nat.le_trans this (by omega)
theorem nT(l:aJ)(i:Nat)(h:ej (fG l i)=true):(fG l i).text=[]:=by
 revert h
 unfold fG
 cases l[i]? with
 |none=>intro _;rfl
 |some c=>
  simp only
  repeat' split
  all_goals first
   |(intro _;rfl)
   |(intro h;simp[ej]at h)
theorem ga.ex{l:aJ}{ts:List bB}(C:ga l ts):∀(k:Nat) (t:bB),ts[k]?=some t->∃i,i<=l.length/\t=fG l i:=by
 intro k
 induction k with
 |zero=>intro t h;rw[C.first]at h;cases h;exact⟨_,ji l 0 (Nat.zero_le _),rfl⟩
 |succ k ih=>
  intro t h
  have E:=(List.getElem?_eq_some_iff.1 h).1
  have B:ts[k]?=some ts[k]:=List.getElem?_eq_getElem (by omega)
  cases A:ej ts[k]
  ·obtain⟨i,F,e⟩:=ih _ B
   have D:=C.next _ _ B A
   rw[h]at D;cases D
   refine⟨_,ji l _ ?_,rfl⟩
   rw[e]at A⊢
   have:=mY l i F A
   rw[tp];exact this.2
  ·have:=C.last _ _ B A;omega
theorem V.here_open{l:aJ}{ts:List bB}{v:V}(C:ga l ts)(B:v.i< ts.length)(h:(v.here ts).text≠[]):ej (v.here ts)=false:=by
 have hg:ts[v.i]?=some (v.here ts):=by unfold V.here;rw[List.getElem?_eq_getElem B];rfl
 obtain⟨i,_,e⟩:=C.ex _ _ hg
 cases A:ej (v.here ts)
 ·rfl
 ·rw[e]at A h;exact absurd (nT l i A) h
theorem Good.of{ts:List bB}{pv:PV}{A:V}{a:Nat}(hg:Good pv)(h:dS ts 1 pv.v A):Good ⟨A,pv.ats++[a]⟩:=fun x=>by
 have B:=h.ok x
 have C:=hg B.1
 show(pv.ats++[a]).length<=A.i
 simp;omega
theorem gB.choice{l:aJ}{ts:List bB}{body:Nat->PV->List mD×PV}(A:ga l ts)(F:gB ts body)(d:Nat)(h:Hd)(pv:PV)(a:Nat)(hg:Good pv)(E:pv.v.i< ts.length)(K:(pv.v.here ts).text≠[]):
  Good (jN ts body d h ⟨pv.v,pv.ats++[a]⟩).2/\dS ts 1 pv.v (jN ts body d h ⟨pv.v,pv.ats++[a]⟩).2.v:=by
 have J:=dS.go1 A E (V.here_open A E K)
 have D:=J.trans (dS.named true A J.lt)
 have O:Good ⟨(pv.v.go1 ts).named ts true,pv.ats++[a]⟩:=hg.of (D.weak (by omega))
 have M:=gB.block A F (d+1) _ O D.lt
 have B:Good (eY ts body d ⟨pv.v,pv.ats++[a]⟩).2/\dS ts 1 ((pv.v.go1 ts).named ts true) (eY ts body d ⟨pv.v,pv.ats++[a]⟩).2.v:=M
 have C:=D.trans B.2
 unfold jN
 split
 ·exact⟨B.1,C.weak (by omega)⟩
 ·split
  ·have H:=dS.go0 B.2.lt
   have N:Good ⟨(eY ts body d ⟨pv.v,pv.ats++[a]⟩).2.v.go1 ts,(eY ts body d ⟨pv.v,pv.ats++[a]⟩).2.ats⟩:=fun x=>by
    have:=B.1 (V.go1_ok x)
    exact Nat.le_trans this (V.go1_le _ _)
   have L:=gB.block A F (d+1) _ N H.lt
   have G:Good (ns ts body d ⟨pv.v,pv.ats++[a]⟩).2/\dS ts 1 ((eY ts body d ⟨pv.v,pv.ats++[a]⟩).2.v.go1 ts) (ns ts body d ⟨pv.v,pv.ats++[a]⟩).2.v:=L
   exact⟨G.1,((C.trans H).trans G.2).weak (by omega)⟩
  ·exact⟨B.1,C.weak (by omega)⟩
theorem gB.stmt{l:aJ}{ts:List bB}{body:Nat->PV->List mD×PV}(D:ga l ts)(H:gB ts body)(d:Nat)(pv:PV)(hg:Good pv)(G:pv.v.i< ts.length):
  Good (eS ts body d pv).2/\dS ts 1 pv.v (eS ts body d pv).2.v:=by
 have C:(pv.v.here ts).text≠[]->dS ts 1 pv.v (pv.v.go1 ts):=fun A=>dS.go1 D G (V.here_open D G A)
 have fin:∀F,dS ts 1 pv.v F->Good ⟨F.must ts [59],fY pv ts⟩/\dS ts 1 pv.v (F.must ts [59]):=fun F h=>
  have E:=(h.trans (dS.must [59] D h.lt)).weak (k:=1) (by omega)
  ⟨hg.of E,E⟩
 unfold eS
 repeat' split
 ·rename_i A
  have B:=C (by rw[A];simp)
  exact fin _ ((B.trans (dS.named false D B.lt)).weak (by omega))
 ·rename_i A
  have B:=C (by rw[A];simp)
  exact fin _ ((B.trans (dS.named false D B.lt)).weak (by omega))
 ·rename_i A
  have B:=C (by rw[A];simp)
  exact fin _ ((B.trans (dS.named false D B.lt)).weak (by omega))
 ·rename_i A _
  exact fin _ (C (by rw[A];simp))
 ·rename_i A _
  have B:=C (by rw[A];simp)
  exact fin _ ((B.trans (dS.named true D B.lt)).weak (by omega))
 ·rename_i A
  exact gB.choice D H d _ pv _ hg G (by rcases A with h|h<;>rw[h]<;>simp)
 ·rename_i A
  have B:=C (by rw[A];simp)
  have E:=dS.named false D B.lt
  exact fin _ (((B.trans E).trans (dS.list true D E.lt)).weak (by omega))
 ·exact fin _ (dS.simple _ D G)
theorem gB.stmts{l:aJ}{ts:List bB}(D:ga l ts)(f:Nat):gB ts (aV ts f):=by
 induction f with
 |zero=>intro d pv hg A;exact⟨hg,dS.refl A⟩
 |succ f ih=>
  intro d pv hg A
  unfold aV
  split
  ·exact⟨hg,dS.refl A⟩
  ·have B:=gB.stmt D ih d pv hg A
   have C:=ih d _ B.1 B.2.lt
   exact⟨C.1,(B.2.trans C.2).weak (by omega)⟩
structure yo where
 kind:Nat
 name:bB
 params:List bB
 body:List mD
def qr(ts:List bB)(pv:PV):List mD×PV:=cH ts (aV ts ts.length) 0 ⟨(V.list ts false ((pv.v.go1 ts).named ts false)).2,pv.ats⟩
def fu(ts:List bB)(s:List yo×PV):List yo×PV:=
 if(s.2.v.here ts).text=[118,97,114]then(s.1++[⟨118,(s.2.v.go1 ts).here ts,[],[]⟩],⟨((s.2.v.go1 ts).named ts false).must ts [59],s.2.ats⟩)
 else if(s.2.v.here ts).text=[109,117,116,101,120]then(s.1++[⟨109,(s.2.v.go1 ts).here ts,[],[]⟩],⟨((s.2.v.go1 ts).named ts false).must ts [59],s.2.ats⟩)
 else if(s.2.v.here ts).text=[102,117,110,99]then(s.1++[⟨102,(s.2.v.go1 ts).here ts,(V.list ts false ((s.2.v.go1 ts).named ts false)).1,(qr ts s.2).1⟩],(qr ts s.2).2)
 else(s.1,⟨s.2.v.flt 5 (s.2.v.here ts).at_,s.2.ats⟩)
def iJ(ts:List bB):Nat->List yo×PV->List yo×PV
 |0,s=>s
 |f+1,s=>if !s.2.v.ok||(s.2.v.here ts).k==36 then s else iJ ts f (fu ts s)
theorem Good.step{ts:List bB}{pv:PV}{A:V}(hg:Good pv)(h:dS ts k pv.v A):Good ⟨A,pv.ats⟩:=fun x=>by
 have B:=h.ok x
 have C:=hg B.1
 show pv.ats.length<=A.i
 omega
theorem gB.decl{l:aJ}{ts:List bB}(C:ga l ts)(s:List yo×PV)(hg:Good s.2)(F:s.2.v.i< ts.length):
  Good (fu ts s).2/\dS ts 0 s.2.v (fu ts s).2.v/\((fu ts s).2.v.ok=true->s.2.v.i+1<=(fu ts s).2.v.i/\(fu ts s).1.length<=s.1.length+1):=by
 have D:(s.2.v.here ts).text≠[]->dS ts 2 s.2.v ((s.2.v.go1 ts).named ts false):=fun E=>
  have B:=dS.go1 C F (V.here_open C F E)
  B.trans (dS.named false C B.lt)
 unfold fu
 split
 ·rename_i E
  have B:=D (by rw[E];simp)
  have A:=B.trans (dS.must [59] C B.lt)
  exact⟨hg.step A,A.weak (by omega),fun x=>⟨by have:=(A.ok x).2;show s.2.v.i+1<=(((s.2.v.go1 ts).named ts false).must ts [59]).i;omega,by simp⟩⟩
 ·split
  ·rename_i E
   have B:=D (by rw[E];simp)
   have A:=B.trans (dS.must [59] C B.lt)
   exact⟨hg.step A,A.weak (by omega),fun x=>⟨by have:=(A.ok x).2;show s.2.v.i+1<=(((s.2.v.go1 ts).named ts false).must ts [59]).i;omega,by simp⟩⟩
  ·split
   ·rename_i E
    have B:=D (by rw[E];simp)
    have A:=B.trans (dS.list false C B.lt)
    have H:=gB.block C (gB.stmts C ts.length) 0 ⟨(V.list ts false ((s.2.v.go1 ts).named ts false)).2,s.2.ats⟩ (hg.step A) A.lt
    have G:=A.trans H.2
    exact⟨H.1,G.weak (by omega),fun x=>⟨by have:=(G.ok x).2;show s.2.v.i+1<=(qr ts s.2).2.v.i;unfold qr;omega,by simp⟩⟩
   ·refine⟨hg.step (dS.flt 5 _ F),dS.flt 5 _ F,fun x=>?_⟩
    rw[V.flt_bad (by decide)]at x;cases x
theorem mA{ts:List bB}{g:Nat}{s:List yo×PV}(h:(!s.2.v.ok||(s.2.v.here ts).k==36)=true):iJ ts g s=s:=by
 cases g with
 |zero=>rfl
 |succ g=>rw[iJ,if_pos h]
theorem Ag{ts:List bB}{g:Nat}{s:List yo×PV}(h:(!s.2.v.ok||(s.2.v.here ts).k==36)=false):iJ ts (g+1) s=iJ ts g (fu ts s):=by
 rw[iJ,if_neg (by simp[h])]
def ja(ts:List bB):V:=if(V.here ts ⟨0,0,0⟩).k=120 then V.flt ⟨0,0,0⟩ (V.here ts ⟨0,0,0⟩).e (V.here ts ⟨0,0,0⟩).at_ else⟨0,0,0⟩
def cL(ts:List bB):List yo×PV:=iJ ts ts.length ([],⟨ja ts,[]⟩)
section
section
variable {ts:List bB} {v:V}
theorem V.no_e(h:v.ok=false):v.e≠0:=by simpa[V.ok]using h
theorem V.flt_no(h:v.ok=false)(e a:Nat):v.flt e a=v:=by unfold V.flt;rw[if_neg (V.no_e h)]
theorem V.on_no(h:v.ok=false):v.on ts=v:=by unfold V.on;rw[if_neg (fun x=>V.no_e h x.1)]
theorem V.go1_no(h:v.ok=false):v.go1 ts=v:=by unfold V.go1;rw[V.on_no h];split<;>first|exact V.flt_no h _ _|rfl
theorem V.must_no(h:v.ok=false)(s:aJ):v.must ts s=v:=by unfold V.must;rw[V.flt_no h,ite_self,V.go1_no h]
theorem V.named_no(h:v.ok=false)(num:Bool):v.named ts num=v:=by unfold V.named;rw[V.flt_no h,ite_self,V.go1_no h]
theorem V.list_no(h:v.ok=false)(num:Bool):(V.list ts num v).2=v:=by
 unfold V.list
 simp only[V.must_no h]
 have:(V.listLoop ts num v).2=v:=by
  unfold V.listLoop
  split
  ·rfl
  ·cases ts.length with
   |zero=>rfl
   |succ f=>simp[V.listF,V.named_no h,h]
 rw[this,V.must_no h]
theorem V.side_no(h:v.ok=false):(V.side ts v).2=v:=by
 unfold V.side
 simp only[V.go1_no h,V.named_no h,V.flt_no h,ite_self]
theorem Hd.sum_no(h:v.ok=false)(d:Hd):(Hd.sum ts d v).2=v:=by
 unfold Hd.sum
 split<;>simp[V.go1_no h,V.named_no h]
theorem Hd.right_no(h:v.ok=false)(d:Hd):(Hd.right ts d v).2=v:=by
 unfold Hd.right
 repeat' split
 all_goals simp[V.go1_no h,V.named_no h,V.list_no h,V.side_no h,Hd.sum_no h]
theorem Al(h:v.ok=false)(d:Nat):gn ts d v=v:=by unfold gn;rw[V.flt_no h,ite_self,V.must_no h]
end
theorem nN{ts:List bB}{pv:PV}(h:pv.v.ok=false)(f d:Nat):aV ts f d pv=([],pv):=by
 cases f with
 |zero=>rfl
 |succ f=>rw[aV,if_pos (by simp[h])]
theorem fL{ts:List bB}{pv:PV}(h:pv.v.ok=false)(f d:Nat):(cH ts (aV ts f) d pv).2.v=pv.v:=by
 unfold cH
 simp only[Al h]
 rw[nN (pv:=⟨pv.v,pv.ats⟩) h]
 exact V.must_no h _
theorem yQ(l:aJ)(i:Nat)(h:(fG l i).k=120):(fG l i).e≠0:=by
 unfold fG at h⊢
 split at h
 ·simp at h
 ·repeat' split at h
  all_goals(first|(simp at h;done)|skip)
  all_goals simp_all
theorem V.here_lex{l:aJ}{ts:List bB}{v:V}(B:ga l ts)(A:v.i< ts.length):∃i,i<=l.length/\v.here ts=fG l i:=by
 have hg:ts[v.i]?=some (v.here ts):=by unfold V.here;rw[List.getElem?_eq_getElem A];rfl
 exact B.ex _ _ hg
end
theorem uo{l:aJ}:∀(m:Nat) {ts:List bB} {n:Nat},AA l ts n->l.length-n<=m->∃B,ga l B:=by
 intro m
 induction m with
 |zero=>
  intro ts n h C
  cases A:ej (fG l (fa l n))with
  |true=>exact⟨_,tZ.toks ⟨ts,n,h,A,rfl⟩⟩
  |false=>
   have E:=mY l _ (ji l n h.le.1) A
   have D:n<=fa l n:=Nat.le_add_right _ _
   omega
 |succ m ih=>
  intro ts n h C
  cases A:ej (fG l (fa l n))with
  |true=>exact⟨_,tZ.toks ⟨ts,n,h,A,rfl⟩⟩
  |false=>
   have E:=mY l _ (ji l n h.le.1) A
   have D:n<=fa l n:=Nat.le_add_right _ _
   have F:=tp l (fa l n)
   exact ih (AA.snoc h A) (by omega)
theorem DG(l:aJ):∃ts,ga l ts:=uo l.length (AA.nil) (by omega)
section
open Go.RowKit
theorem dt(s:ByteArray):s.data.toList.length=s.size:=rfl
theorem og(s:ByteArray)(i n:Nat):s.extract i (i+n)=⟨(sub s.data.toList i n).toArray⟩:=by
 rw[Lib.extract_eq];simp[sub]
theorem vt(s:ByteArray)(i:Nat)(h:i< s.size):s.data.toList[i]?=some s[i]:=List.getElem?_eq_getElem (l:=s.data.toList) h
theorem DS(s:ByteArray)(i:Nat)(h:i< s.size):sub s.data.toList i 1=[s[i]]:=by
 unfold sub
 have h':i< s.data.toList.length:=h
 rw[List.drop_eq_getElem_cons h']
 rfl
theorem DT(s:ByteArray)(i n:Nat)(h:i+n<=s.size):(s.extract i (i+n)).size<=n:=by
 simp;omega
theorem aP{w':World}{size:Nat}{xs:List Value}(h:w.ownsRow B e size v n xs)(hb:Below w.heap.size w w'):w'.ownsRow B e size v n xs:=by
 refine⟨h.1,?_⟩
 rcases h.2 with hn|⟨g,cap,cur,hv,hg,hh,r⟩
 ·exact Or.inl hn
 ·have hlt:g< w.heap.size:=by
   rcases Nat.lt_or_ge g w.heap.size with h|h
   ·exact h
   ·rw[Array.getElem?_eq_none h]at hh;cases hh
  exact Or.inr ⟨g,cap,cur,hv,hg,by rw[hb.block g hlt];exact hh,r⟩
theorem cF(w:World)(cs:Array Value)(t:TypeId)(B:Nat)(hB:B=w.heap.size):∀j u,cs.toList[j]?=some u->(w.alloc (.cells cs t)).cell? ((⟨B,0,none⟩:Addr).add j)=some u:=by
 intro j u hj
 subst hB
 have e:(⟨w.heap.size,0,none⟩:Addr).add j=⟨w.heap.size,j,none⟩:=by
  simp[Addr.add]
  intro h;exact h.symm
 rw[e,World.cell?_alloc_new]
 simpa using hj
theorem uT{w':World}{size b:Nat}{xs:List Value}(h:w.ownsRow B e size v n xs)(hb:aC (aK b) w w')(hne:b< B):w'.ownsRow B e size v n xs:=by
 refine⟨h.1,?_⟩
 rcases h.2 with hn|⟨g,cap,cur,hv,hg,hh,r⟩
 ·exact Or.inl hn
 ·have hlt:g< w.heap.size:=by
   rcases Nat.lt_or_ge g w.heap.size with h|h
   ·exact h
   ·rw[Array.getElem?_eq_none h]at hh;cases hh
  exact Or.inr ⟨g,cap,cur,hv,hg,by rw[hb.block g hlt (by unfold aK;omega)];exact hh,r⟩
structure aM(w:World)(B:Nat)(A:Array Value):Prop where
 cell:∀j,w.cell? ⟨B,j,none⟩=A[j]?
 fz:∀j,w.frozen? ⟨B,j,none⟩=false
 lt:B< w.heap.size
theorem aM.kept{S:Nat->Prop}{w':World}{A:Array Value}(h:aM w B A)(k:aC S w w')(hs:¬S B):aM w' B A:=
 ⟨fun j=>by rw[k.cell (p:=⟨B,j,none⟩) h.lt hs];exact h.cell j,fun j=>by rw[k.frozen (p:=⟨B,j,none⟩) h.lt hs];exact h.fz j,Nat.lt_of_lt_of_le h.lt k.size⟩
theorem aM.only{b:Nat}{w':World}{A:Array Value}(h:aM w B A)(k:aC (aK b) w w')(hs:B≠b):aM w' B A:=h.kept k hs
theorem aM.below{w':World}{A:Array Value}(h:aM w B A)(k:Below w.heap.size w w'):aM w' B A:=h.kept (S:=fun _=>False) (aC.of_below k) (fun x=>x)
theorem aM.alloc{A:Array Value}(h:aM w B A)(o:Obj):aM (w.alloc o) B A:=h.below ((Below.refl _ _).alloc (Nat.le_refl _) o)
theorem aM.new(w:World)(A:Array Value)(t:TypeId):aM (w.alloc (.cells A t)) w.heap.size A:=
 ⟨fun j=>World.cell?_alloc_new w A t j,fun j=>World.frozen?_alloc_new w A t j,by simp⟩
theorem aM.setO{A:Array Value}(h:aM w B A)(b j:Nat)(u:Value)(hne:B≠b):aM (w.setCell ⟨b,j,none⟩ u) B A:=
 h.kept (S:=aK b) ((aC.refl _ w).set1 j u) hne
theorem aM.set{A:Array Value}(h:aM w B A)(j:Nat)(u:Value)(hj:j< A.size):aM (w.setCell ⟨B,j,none⟩ u) B (A.setIfInBounds j u):=by
 refine⟨fun i=>?_,fun i=>by simp[h.fz i],by simpa[World.setCell]using h.lt⟩
 by_cases e:i=j
 ·subst e
  have hc:=h.cell i
  rw[Array.getElem?_eq_getElem hj]at hc
  rw[World.cell?_setCell_same _ _ _ hc]
  simp[hj]
 ·rw[World.cell?_setCell_other,h.cell i]
  ·simp[Array.getElem?_setIfInBounds,Ne.symm e]
  ·simp[e]
def gO(b c:Nat):Nat->Prop:=fun k=>k=b\/k=c
section
variable {w:World} {b:Nat} {h:Hd} {sa sb se:Value}
end
theorem aM.new'(w:World)(A:Array Value)(t:TypeId)(B:Nat)(hB:w.heap.size=B):aM (w.alloc (.cells A t)) B A:=hB▸aM.new w A t
theorem aI{size:Nat}{xs:List Value}(h:w.ownsRow B e size v n xs):∃p c,v=.slice p n c:=by
 rcases h.2 with⟨hn,rfl⟩|⟨g,cap,cur,hv,_⟩
 ·exact⟨none,0,hn⟩
 ·exact⟨_,cap,hv⟩
theorem cU{B' size:Nat}{xs:List Value}(h:w.ownsRow B e size v n xs)(hb:B'<=B):w.ownsRow B' e size v n xs:=by
 refine⟨h.1,?_⟩
 rcases h.2 with hn|⟨g,cap,cur,hv,hg,hh,r⟩
 ·exact Or.inl hn
 ·exact Or.inr ⟨g,cap,cur,hv,Nat.le_trans hb hg,hh,r⟩
abbrev aF(b:Nat):Value:=.pointer (some ⟨b,0,none⟩)
def fg(bs:List Nat):List Value:=bs.map aF
theorem nP(bs:List Nat)(b:Nat):fg (bs++[b])=fg bs++[aF b]:=by simp[fg]
def dL(w:World)(P:Nat->Prop)(e size:Nat)(v:Value)(n:Nat)(xs:List Value):Prop:=w.ownsRow 0 e size v n xs/\∀k,v.ownBlock=some k->P k
theorem dL.move{w':World}{P P':Nat->Prop}{size:Nat}{xs:List Value}(hm:∀b,P b->P' b/\w'.heap[b]?=w.heap[b]?)(h:dL w P e size v n xs):dL w' P' e size v n xs:=by
 obtain⟨h1,h2⟩:=h
 refine⟨⟨h1.1,?_⟩,fun k hk=>(hm k (h2 k hk)).1⟩
 rcases h1.2 with hn|⟨g,cap,cur,hv,hg,hh,r⟩
 ·exact Or.inl hn
 ·exact Or.inr ⟨g,cap,cur,hv,hg,by rw[(hm g (h2 g (by rw[hv];rfl))).2];exact hh,r⟩
theorem tO{P:Program}{w':World}{v':Value}(base:Nat)(t ty e:TypeId)(i:TypeInfo)(z:Value)(ht:P.underlying t=some (.slice e))(hi:P.info? e=some i)(hz:i.zero=some z)
  (n:Nat) (xs:List Value) (hown:w.ownsRow base e i.size v n xs) (a:Addr) (m c:Nat) (news:List Value) (hl:news.length=m*i.size) (hnews:∀j u,news[j]?=some u->w.cell? (a.add j)=some u) (h1:∀u∈news,u.oneCell'=true)
  (hm:0< m) (h63:n+m<=maxLen) (hbytes:(n+m)*i.bytes<=140737488355328) (hr:(Builtin.append_ #[t,t] ty #[v,.slice (some a) m c]).run P w=.ok v' w'):
  v'.ownBlock=v.ownBlock\/v'.ownBlock=some w.heap.size:=by
 have hsm:n+m<=9223372036854775807:=by simp only[maxLen]at h63;omega
 rcases hown.2 with⟨rfl,rfl⟩|⟨g,cap,cur,rfl,hbg,hg,hnc,hcm,hcs,htake⟩
 ·have h2:=run_append_nil (P:=P) w t ty e i z ht hi hz a m c news hl hnews (by omega) (by omega) (by have hb:=hbytes;simp only[Nat.zero_add]at hb;omega)
  rw[h2]at hr;cases hr;exact Or.inr rfl
 ·by_cases hroom:n+m<=cap
  ·have h2:=run_append_room (P:=P) w t ty e i ht hi g n cap cur hg a m c news hl hnews h1 hroom (by rw[hl,hcs,<-Nat.add_mul];exact Nat.mul_le_mul_right _ hroom)
   rw[h2]at hr;cases hr;exact Or.inl rfl
  ·have h2:=run_append_grow (P:=P) w t ty e i z ht hi hz ⟨g,0,none⟩ n cap xs hown.1 (hown.cells (g:=g) rfl) a m c news hl hnews (by omega) (by omega) (growslice_fits (by omega) hbytes)
   rw[h2]at hr;cases hr;exact Or.inr rfl
theorem ky{P:Program}{o:Oper}{a:Act}{K:Act->World->Prop}{Q:Exit->Act->World->Prop}
  (s x:Operand) (t:TypeId) (ho:o.op=Op.call {callee:=Callee.builtin Builtin.append,args:=#[s,x],argTypes:=#[t,t]})
  (base:Nat) (e:TypeId) (i:TypeInfo) (z:Value) (size bytes:Nat) (ht:P.underlying t=some (.slice e)) (hi:P.info? e=some i) (hz:i.zero=some z)
  (hsize:i.size=size) (hby:i.bytes=bytes) (hzs:z.cells.size=size) (hsz:0< size)
  (v:Value) (n:Nat) (xs:List Value) (hs:a.eval s=v) (hown:w.ownsRow base e size v n xs)
  (ad:Addr) (m c:Nat) (news:List Value) (hx:a.eval x=.slice (some ad) m c) (hl:news.length=m*size) (hnews:∀j u,news[j]?=some u->w.cell? (ad.add j)=some u) (h1:∀u∈news,u.oneCell'=true)
  (hm:0< m) (h63:n+m<=maxLen) (hbytes:(n+m)*bytes<=140737488355328) (hbase:base<=w.heap.size)
  (h:∀v' w',w'.ownsRow base e size v' (n+m) (xs++news)->w.grownBy w' v.ownBlock->(v'.ownBlock=v.ownBlock\/v'.ownBlock=some w.heap.size)->K (a.put o.dst v') w'):o.wp P a w K Q:=by
 subst hsize hby
 obtain⟨v',w',hr,h2,h3,_⟩:=run_append_own (P:=P) w base t o.type e i z i.size i.bytes ht hi hz rfl rfl hzs hsz v n xs hown ad m c news hl hnews h1 h63 hbytes hbase
 have h4:=tO base t o.type e i z ht hi hz n xs hown ad m c news hl hnews h1 hm h63 hbytes hr
 unfold Oper.wp execOp
 simp only[ho,resolve,invoke,builtin,Sem.run_bind,Sem.run_pure,Result.andThen_ok,List.map_toArray,List.map_cons,List.map_nil,hs,hx,hr]
 exact h v' w' h2 h3 h4
theorem bD{P:Program}{ops:Array Oper}{o:Oper}{a:Act}{K:Act->World->Prop}{Q:Exit->Act->World->Prop}{E:Prop}
  (hg:o.guard=none) (s x:Operand) (t:TypeId) (ho:o.op=Op.call {callee:=Callee.builtin Builtin.append,args:=#[s,x],argTypes:=#[t,t]})
  (base:Nat) (e:TypeId) (i:TypeInfo) (z:Value) (size bytes:Nat) (ht:P.underlying t=some (.slice e)) (hi:P.info? e=some i) (hz:i.zero=some z)
  (hsize:i.size=size) (hby:i.bytes=bytes) (hzs:z.cells.size=size) (hsz:0< size)
  (v:Value) (n:Nat) (xs:List Value) (hs:a.eval s=v) (hown:w.ownsRow base e size v n xs)
  (ad:Addr) (m c:Nat) (news:List Value) (hx:a.eval x=.slice (some ad) m c) (hl:news.length=m*size) (hnews:∀j u,news[j]?=some u->w.cell? (ad.add j)=some u) (h1:∀u∈news,u.oneCell'=true)
  (hm:0< m) (h63:n+m<=maxLen) (hbytes:(n+m)*bytes<=140737488355328) (hbase:base<=w.heap.size)
  (h:∀v' w',w'.ownsRow base e size v' (n+m) (xs++news)->w.grownBy w' v.ownBlock->(v'.ownBlock=v.ownBlock\/v'.ownBlock=some w.heap.size)->K (a.put o.dst v') w'):
  if Region.wanted o (yielded ops a.tmps)=true then Oper.wp P o a w K Q else E:=by
 have hw:Region.wanted o (yielded ops a.tmps)=true:=by simp[Region.wanted,hg]
 rw[if_pos hw]
 exact ky s x t ho base e i z size bytes ht hi hz hsize hby hzs hsz v n xs hs hown ad m c news hx hl hnews h1 hm h63 hbytes hbase h
theorem bE{P:Program}{ops:Array Oper}{rest:List Oper}{o:Oper}{a:Act}{Q:Exit->Act->World->Prop}(hgd:o.guard=none)
  (s x:Operand) (t:TypeId) (ho:o.op=Op.call {callee:=Callee.builtin Builtin.append,args:=#[s,x],argTypes:=#[t,t]})
  (base:Nat) (e:TypeId) (i:TypeInfo) (z:Value) (size bytes:Nat) (ht:P.underlying t=some (.slice e)) (hi:P.info? e=some i) (hz:i.zero=some z)
  (hsize:i.size=size) (hby:i.bytes=bytes) (hzs:z.cells.size=size) (hsz:0< size)
  (v:Value) (n:Nat) (xs:List Value) (hs:a.eval s=v) (hown:w.ownsRow base e size v n xs)
  (ad:Addr) (m c:Nat) (news:List Value) (hx:a.eval x=.slice (some ad) m c) (hl:news.length=m*size) (hnews:∀j u,news[j]?=some u->w.cell? (ad.add j)=some u) (h1:∀u∈news,u.oneCell'=true)
  (hm:0< m) (h63:n+m<=maxLen) (hbytes:(n+m)*bytes<=140737488355328) (hbase:base<=w.heap.size)
  (h:∀v' w',w'.ownsRow base e size v' (n+m) (xs++news)->w.grownBy w' v.ownBlock->(v'.ownBlock=v.ownBlock\/v'.ownBlock=some w.heap.size)->wpList P ops Q rest (a.put o.dst v') w'):wpList P ops Q (o::rest) a w:=
 wpList_plain hgd fun _ hK=>ky s x t ho base e i z size bytes ht hi hz hsize hby hzs hsz v n xs hs hown ad m c news hx hl hnews h1 hm h63 hbytes hbase fun v' w' h2 h3 h4=>hK _ _ (h v' w' h2 h3 h4)
theorem aC.drew'{S:Nat->Prop}(h:aC S a b):aC S a b.drew:=⟨h.os,h.tape,h.output,h.size,h.block⟩
theorem dL.none(w:World)(P:Nat->Prop)(e size:Nat):dL w P e size (.slice none 0 0) 0 []:=⟨World.ownsRow_nil _ _ _ _,fun k h=>by cases h⟩
section
variable {w:World} {b k:Nat} {t:bB} {sa sb:Value}
end
theorem aM.below2{w':World}{A:Array Value}(h:aM w B A)(k:Below n w w')(hn:B< n):aM w' B A:=
 ⟨fun j=>by rw[k.cell (p:=⟨B,j,none⟩) hn];exact h.cell j,fun j=>by rw[k.frozen (p:=⟨B,j,none⟩) hn];exact h.fz j,Nat.lt_of_lt_of_le h.lt k.size⟩
end
section
open Go.RowKit Go.RowKit Go.RowKit Go.RowKit Go.RowKit Go.RowKit Go.Maps Go.RowKit Go.Maps Go.RowKit Go.Maps Go.RowKit Go.Maps
section
theorem xL{G:Nat}{A:Func}{c:Code}(C:Tryz.prog.funcs[G]?=some A)(D:A.body=some c)(B:(A.name== "runtime.NumGoroutine")=false)(args:Array Value)(w:World):(callFunc G args).run Tryz.prog w=.ok (.enter G args) w:=by
 have:=beq_eq_false_iff_ne.1 B
 simp[callFunc,go_sem,C,D,this]
end
section
theorem jJ{size:Nat}(A:Array Value)(C:List Value)(D:C.length=1*size)(E:A.toList=C)(F:B<=w.heap.size):(w.alloc (.cells A e)).ownsRow B e size (.slice (some (Ad w.heap.size 0)) 1 1) 1 C:=by
 refine⟨D,.inr ⟨w.heap.size,1,A,rfl,F,?_,Nat.le_refl _,by decide,?_,?_⟩⟩
 ·show(w.heap.push (.cells A e (0,0)))[w.heap.size]?=_
  exact Array.getElem?_push_size
 ·rw[<-D,<-E];simp
 ·rw[<-D,E,List.take_length]
end
section
structure Ph where
 at_:Nat:=0
 place:Nat:=0
 kind:Nat:=0
 lt:aJ:=[]
 la:Nat:=0
 ln:Nat:=0
 op:Nat:=0
 side:Nat:=0
 wa:Nat:=0
 nt:aJ:=[]
 na:Nat:=0
 nn:Nat:=0
def bK(p:Ph)(sr sb:Value):Array Value:=#[.int .i64 p.at_,.int .i64 p.place,.int .i64 p.kind,.string ⟨p.lt.toArray⟩,.int .i64 p.la,.int .i64 p.ln,.int .i64 p.op,.int .i64 p.side,.int .i64 p.wa,.string ⟨p.nt.toArray⟩,.int .i64 p.na,.int .i64 p.nn,sr,sb]
end
section
structure Pa where
 text:aJ
 at_:Nat
 num:Nat
 n:Nat
def oK(a:Pa):List Value:=[.string ⟨a.text.toArray⟩,.int .i64 a.at_,.int .i64 a.num,.int .i64 a.n]
def eF(l:List Pa):List Value:=l.flatMap oK
end
section
abbrev Own(w w':World)(bs:Nat):Nat->Prop:=fun b=>b=bs\/(w.heap.size<=b/\b< w'.heap.size)
end
section
theorem heap_setCell{b:Nat}{A:Array Value}{e:TypeId}{B:Nat×Nat}(h:w.heap[b]?=some (.cells A e B))(j:Nat)(v:Value):(w.setCell ⟨b,j,none⟩ v).heap[b]?=some (.cells (A.setIfInBounds j v) e B):=by
 unfold World.setCell
 simp[Array.getElem?_modify,h]
end
section
theorem mR(l:List Pa):(eF l).length=l.length*4:=by
 induction l with
 |nil=>rfl
 |cons a l ih=>simp only[eF,List.flatMap_cons,List.length_append,List.length_cons]at ih⊢;rw[ih];simp[oK];omega
theorem kK(l m:List Pa):eF (l++m)=eF l++eF m:=by simp[eF]
theorem yJ(r1 r2:List Pa)(a:Pa)(j:Nat)(A:j< 4):(eF (r1++a::r2))[r1.length*4+j]?=(oK a)[j]?:=by
 rw[kK,List.getElem?_append_right (by rw[mR];omega),mR]
 have:r1.length*4+j-r1.length*4=j:=by omega
 rw[this]
 show(oK a++eF r2)[j]?=_
 rw[List.getElem?_append_left (by simp[oK];omega)]
end
section
def putF(f:aJ->Option (Nat×Nat))(s:aJ)(x:Nat×Nat):aJ->Option (Nat×Nat):=fun t=>if t=s then some x else f t
end
section
theorem aO{size:Nat}{A:List Value}(h:w.ownsRow B e size v n A)(D:n≠0):∃g c,v=.slice (some (Ad g 0)) n c:=by
 rcases h.2 with⟨_,E⟩|⟨g,cap,F,C,_⟩
 ·exact absurd E D
 ·exact⟨g,cap,C⟩
end
end
section
open Go.Shelf Go.RowKit
def Tryz.lays137_ren:Go.Shelf.Ren:=⟨fun|137=>190|217=>263|266=>293|n=>n,fun|9=>9|5=>5|3=>3|n=>n,fun|n=>n⟩
theorem Tryz.lays137:Go.Proofs.Lays.n137 Tryz.prog Tryz.lays137_ren:={
 mixed:=by kernel_rfl
 f137:=Tryz.func190.trans (congrArg some (by kernel_rfl))
 f217:=Tryz.func263.trans (congrArg some (by kernel_rfl))
 f266:=Tryz.func293.trans (congrArg some (by kernel_rfl))
 t3:=Tryz.underlying3
 a3:=Tryz.isAgg3
 z3:=Tryz.sizeOf3
 v3:=Tryz.zeroValue3
 t5:=Tryz.underlying5
 a5:=Tryz.isAgg5
 z5:=Tryz.sizeOf5
 v5:=Tryz.zeroValue5
 t9:=Tryz.underlying9
 a9:=Tryz.isAgg9
 z9:=Tryz.sizeOf9
 v9:=Tryz.zeroValue9}
open Go.RowKit in
theorem Tryz.strings_IndexByte(s:ByteArray)(c:Int)(w:World):
  Calls Tryz.prog 190 #[.string s,.int .u8 c] w fun e w'=>e=.returned (.int .i64 (Lib.indexByte s.data.toList c.toNat.toUInt8))/\w'=w:=Any.strings_IndexByte Tryz.lays137 s c w
open Go.RowKit in
def Tryz.lays172_ren:Go.Shelf.Ren:=⟨fun|172=>264|244=>294|245=>295|247=>303|279=>304|280=>305|281=>306|282=>307|287=>310|316=>262|171=>312|205=>311|321=>313|322=>314|243=>315|246=>316|283=>317|284=>318|285=>319|286=>320|129=>187|317=>321|318=>322|319=>323|320=>324|337=>325|338=>234|n=>n,fun|9=>9|3=>3|75=>68|76=>425|4=>4|5=>5|167=>458|37=>448|0=>0|85=>459|2=>2|168=>461|53=>177|175=>465|46=>274|210=>468|127=>449|145=>474|143=>472|21=>21|171=>476|173=>478|212=>482|51=>369|20=>20|213=>483|232=>485|233=>436|80=>46|n=>n,fun|15=>2|16=>3|17=>4|18=>5|19=>0|n=>n⟩
theorem Tryz.lays172:Go.Proofs.Lays.n172 Tryz.prog Tryz.lays172_ren:={
 mixed:=by kernel_rfl
 f129:=Tryz.func187.trans (congrArg some (by kernel_rfl))
 f171:=Tryz.func312.trans (congrArg some (by kernel_rfl))
 f172:=Tryz.func264.trans (congrArg some (by kernel_rfl))
 f205:=Tryz.func311.trans (congrArg some (by kernel_rfl))
 f243:=Tryz.func315.trans (congrArg some (by kernel_rfl))
 f244:=Tryz.func294.trans (congrArg some (by kernel_rfl))
 f245:=Tryz.func295.trans (congrArg some (by kernel_rfl))
 f246:=Tryz.func316.trans (congrArg some (by kernel_rfl))
 f247:=Tryz.func303.trans (congrArg some (by kernel_rfl))
 f279:=Tryz.func304.trans (congrArg some (by kernel_rfl))
 f280:=Tryz.func305.trans (congrArg some (by kernel_rfl))
 f281:=Tryz.func306.trans (congrArg some (by kernel_rfl))
 f282:=Tryz.func307.trans (congrArg some (by kernel_rfl))
 f283:=Tryz.func317.trans (congrArg some (by kernel_rfl))
 f284:=Tryz.func318.trans (congrArg some (by kernel_rfl))
 f285:=Tryz.func319.trans (congrArg some (by kernel_rfl))
 f286:=Tryz.func320.trans (congrArg some (by kernel_rfl))
 f287:=Tryz.func310.trans (congrArg some (by kernel_rfl))
 f316:=Tryz.func262.trans (congrArg some (by kernel_rfl))
 f317:=Tryz.func321.trans (congrArg some (by kernel_rfl))
 f318:=Tryz.func322.trans (congrArg some (by kernel_rfl))
 f319:=Tryz.func323.trans (congrArg some (by kernel_rfl))
 f320:=Tryz.func324.trans (congrArg some (by kernel_rfl))
 f321:=Tryz.func313.trans (congrArg some (by kernel_rfl))
 f322:=Tryz.func314.trans (congrArg some (by kernel_rfl))
 f337:=Tryz.func325.trans (congrArg some (by kernel_rfl))
 f338:=Tryz.func234.trans (congrArg some (by kernel_rfl))
 t0:=Tryz.underlying0
 a0:=Tryz.isAgg0
 z0:=Tryz.sizeOf0
 v0:=Tryz.zeroValue0
 t2:=Tryz.underlying2
 a2:=Tryz.isAgg2
 z2:=Tryz.sizeOf2
 v2:=Tryz.zeroValue2
 t3:=Tryz.underlying3
 a3:=Tryz.isAgg3
 z3:=Tryz.sizeOf3
 v3:=Tryz.zeroValue3
 t4:=Tryz.underlying4
 a4:=Tryz.isAgg4
 z4:=Tryz.sizeOf4
 v4:=Tryz.zeroValue4
 t5:=Tryz.underlying5
 a5:=Tryz.isAgg5
 z5:=Tryz.sizeOf5
 v5:=Tryz.zeroValue5
 t9:=Tryz.underlying9
 a9:=Tryz.isAgg9
 z9:=Tryz.sizeOf9
 v9:=Tryz.zeroValue9
 t20:=Tryz.underlying20
 a20:=Tryz.isAgg20
 z20:=Tryz.sizeOf20
 v20:=Tryz.zeroValue20
 t21:=Tryz.underlying21
 a21:=Tryz.isAgg21
 z21:=Tryz.sizeOf21
 v21:=Tryz.zeroValue21
 t37:=Tryz.underlying448
 a37:=Tryz.isAgg448
 z37:=Tryz.sizeOf448
 v37:=Tryz.zeroValue448
 t46:=Tryz.underlying274
 a46:=Tryz.isAgg274
 z46:=Tryz.sizeOf274
 v46:=Tryz.zeroValue274
 t51:=Tryz.underlying369
 a51:=Tryz.isAgg369
 z51:=Tryz.sizeOf369
 v51:=Tryz.zeroValue369
 t53:=Tryz.underlying177
 a53:=Tryz.isAgg177
 z53:=Tryz.sizeOf177
 v53:=Tryz.zeroValue177
 t75:=Tryz.underlying68
 a75:=Tryz.isAgg68
 z75:=Tryz.sizeOf68
 v75:=Tryz.zeroValue68
 t76:=Tryz.underlying425
 a76:=Tryz.isAgg425
 z76:=Tryz.sizeOf425
 v76:=Tryz.zeroValue425
 t85:=Tryz.underlying459
 a85:=Tryz.isAgg459
 z85:=Tryz.sizeOf459
 v85:=Tryz.zeroValue459
 t127:=Tryz.underlying449
 a127:=Tryz.isAgg449
 z127:=Tryz.sizeOf449
 v127:=Tryz.zeroValue449
 t143:=Tryz.underlying472
 a143:=Tryz.isAgg472
 z143:=Tryz.sizeOf472
 v143:=Tryz.zeroValue472
 t145:=Tryz.underlying474
 a145:=Tryz.isAgg474
 z145:=Tryz.sizeOf474
 v145:=Tryz.zeroValue474
 t167:=Tryz.underlying458
 a167:=Tryz.isAgg458
 z167:=Tryz.sizeOf458
 v167:=Tryz.zeroValue458
 t168:=Tryz.underlying461
 a168:=Tryz.isAgg461
 z168:=Tryz.sizeOf461
 v168:=Tryz.zeroValue461
 t171:=Tryz.underlying476
 a171:=Tryz.isAgg476
 z171:=Tryz.sizeOf476
 v171:=Tryz.zeroValue476
 t173:=Tryz.underlying478
 a173:=Tryz.isAgg478
 z173:=Tryz.sizeOf478
 v173:=Tryz.zeroValue478
 t175:=Tryz.underlying465
 a175:=Tryz.isAgg465
 z175:=Tryz.sizeOf465
 v175:=Tryz.zeroValue465
 t210:=Tryz.underlying468
 a210:=Tryz.isAgg468
 z210:=Tryz.sizeOf468
 v210:=Tryz.zeroValue468
 t212:=Tryz.underlying482
 a212:=Tryz.isAgg482
 z212:=Tryz.sizeOf482
 v212:=Tryz.zeroValue482
 t213:=Tryz.underlying483
 a213:=Tryz.isAgg483
 z213:=Tryz.sizeOf483
 t232:=Tryz.underlying485
 a232:=Tryz.isAgg485
 z232:=Tryz.sizeOf485
 v232:=Tryz.zeroValue485
 t233:=Tryz.underlying436
 a233:=Tryz.isAgg436
 z233:=Tryz.sizeOf436
 v233:=Tryz.zeroValue436
 g15:=by kernel_rfl
 g16:=by kernel_rfl
 g17:=by kernel_rfl
 g18:=by kernel_rfl
 g19:=by kernel_rfl}
open Go.RowKit in
theorem Tryz.strconv_Atoi(s:ByteArray)(n:Int)(hl:s.size<=18)(h:Lib.atoi s.data.toList=some n)(w:World):
  Calls Tryz.prog 264 #[.string s] w fun e w'=>e=.returned (.tuple #[.int .i64 n,.nilIface])/\∃t,w'=Lib.bytesWorld w 5 t:=Any.strconv_Atoi Tryz.lays172 s n hl h w
def Tryz.laysM316_ren:Go.Shelf.Ren:=⟨fun|316=>262|n=>n,fun|9=>9|3=>3|4=>4|37=>448|0=>0|127=>449|5=>5|n=>n,fun|n=>n⟩
theorem Tryz.laysM316:Go.Proofs.LaysM.n316 Tryz.prog Tryz.laysM316_ren:={
 mixed:=by kernel_rfl
 f316:=Tryz.func262.trans (congrArg some (by kernel_rfl))
 t0:=Tryz.underlying0
 a0:=Tryz.isAgg0
 z0:=Tryz.sizeOf0
 v0:=Tryz.zeroValue0
 t3:=Tryz.underlying3
 a3:=Tryz.isAgg3
 z3:=Tryz.sizeOf3
 v3:=Tryz.zeroValue3
 t4:=Tryz.underlying4
 a4:=Tryz.isAgg4
 z4:=Tryz.sizeOf4
 v4:=Tryz.zeroValue4
 t9:=Tryz.underlying9
 a9:=Tryz.isAgg9
 z9:=Tryz.sizeOf9
 v9:=Tryz.zeroValue9
 t37:=Tryz.underlying448
 a37:=Tryz.isAgg448
 z37:=Tryz.sizeOf448
 v37:=Tryz.zeroValue448
 t127:=Tryz.underlying449
 a127:=Tryz.isAgg449
 z127:=Tryz.sizeOf449
 v127:=Tryz.zeroValue449
 t5:=Tryz.underlying5
 a5:=Tryz.isAgg5
 z5:=Tryz.sizeOf5
 v5:=Tryz.zeroValue5
 i0:=by kernel_rfl
 i3:=by kernel_rfl
 i4:=by kernel_rfl
 i5:=by kernel_rfl
 i9:=by kernel_rfl
 i37:=by kernel_rfl
 i127:=by kernel_rfl}
open Go.RowKit in
theorem Tryz.stringslite_Clone(s:ByteArray)(w:World)(hlim:s.size<=281474976710656):
  Calls Tryz.prog 262 #[.string s] w fun e w'=>e=.returned (.string s)/\Below w.heap.size w w':=Any.stringslite_Clone Tryz.laysM316 s w hlim
open Go.RowKit Go.Lib in
open Go.RowKit Go.Lib in
def Tryz.lays99_ren:Go.Shelf.Ren:=⟨fun|99=>125|206=>189|n=>n,fun|9=>9|4=>4|3=>3|n=>n,fun|n=>n⟩
theorem Tryz.lays99:Go.Proofs.Lays.n99 Tryz.prog Tryz.lays99_ren:={
 mixed:=by kernel_rfl
 f99:=Tryz.func125.trans (congrArg some (by kernel_rfl))
 f206:=Tryz.func189.trans (congrArg some (by kernel_rfl))
 t3:=Tryz.underlying3
 a3:=Tryz.isAgg3
 z3:=Tryz.sizeOf3
 v3:=Tryz.zeroValue3
 t4:=Tryz.underlying4
 a4:=Tryz.isAgg4
 z4:=Tryz.sizeOf4
 v4:=Tryz.zeroValue4
 t9:=Tryz.underlying9
 a9:=Tryz.isAgg9
 z9:=Tryz.sizeOf9
 v9:=Tryz.zeroValue9}
open Go.RowKit Go.Lib in
theorem Tryz.strings_HasPrefix(s p:ByteArray)(w:World):
  Calls Tryz.prog 125 #[.string s,.string p] w fun e w'=>e=.returned (.bool (Lib.hasPrefix s.data.toList p.data.toList))/\w'=w:=Any.strings_HasPrefix Tryz.lays99 s p w
end
end Go.Proofs.YtajfbbldaiaolaaGreatDoor
