import Derived.WalkKit
import Derived.BigQuiet
import Derived.Deep.Cut
import Derived.Deep.CutBlock
import Derived.Deep.DeepCutAuto
import Derived.Deep.LoopGhost
import Derived.Deep.QuietTactic
import Derived.Deep.RegionLaw
import Derived.Deep.RegionWith
import Derived.Lib.Strings
import Derived.WalkLawsBesides
import Derived.WalkSmall
import Derived.WalkSpells
import Derived.Test.YtmdaflepdaiabaaGreatDoorProg
import Derived.Shelf.Small.Strs
import Derived.Shelf.Strconv.Atoi
import Derived.Shelf.LaysM
import Derived.Shelf.Strconv.Clone
import Derived.Shelf.Strings.Search1
import Derived.Shelf.Strings.Prefix
set_option linter.unusedSimpArgs false
set_option linter.unusedVariables false
namespace Go.Proofs.YtmdaflepdaiabaaGreatDoor
section
open Go.RowKit
theorem aa{p:Prop}(h:p):Hid p:=h
structure ae(S:Nat→Prop)(w w':World):Prop where
 os:w'.os=w.os
 tape:w'.tape=w.tape
 output:w'.output=w.output
 size:w.heap.size≤w'.heap.size
 block:∀k,k< w.heap.size→¬S k→w'.heap[k]?=w.heap[k]?
theorem ae.refl(S:Nat→Prop)(w:World):ae S w w:=⟨rfl,rfl,rfl,Nat.le_refl _,fun _ _ _=>rfl⟩
theorem ae.trans{S:Nat→Prop}{a b c:World}(h:ae S a b)(k:ae S b c):ae S a c:=
 ⟨k.os.trans h.os,k.tape.trans h.tape,k.output.trans h.output,Nat.le_trans h.size k.size,fun i hi hs=>(k.block i (Nat.lt_of_lt_of_le hi h.size) hs).trans (h.block i hi hs)⟩
theorem ae.trans'{S T:Nat→Prop}{a b c:World}(h:ae S a b)(k:ae T b c)(hst:∀i,T i→S i∨a.heap.size≤i):ae S a c:=
 ⟨k.os.trans h.os,k.tape.trans h.tape,k.output.trans h.output,Nat.le_trans h.size k.size,fun i hi hs=>(k.block i (Nat.lt_of_lt_of_le hi h.size) (fun ht=>by rcases hst i ht with x|x;exact hs x;omega)).trans (h.block i hi hs)⟩
theorem ae.mono{S T:Nat→Prop}{a b:World}(h:ae S a b)(hst:∀i,S i→T i):ae T a b:=⟨h.os,h.tape,h.output,h.size,fun i hi hs=>h.block i hi (fun x=>hs (hst i x))⟩
theorem ae.below{S:Nat→Prop}{a b c:World}(h:ae S a b)(k:Below b.heap.size b c):ae S a c:=
 ⟨k.os.trans h.os,k.tape.trans h.tape,k.output.trans h.output,Nat.le_trans h.size k.size,fun i hi hs=>(k.block i (Nat.lt_of_lt_of_le hi h.size)).trans (h.block i hi hs)⟩
theorem ae.drew{S:Nat→Prop}{a b:World}(h:ae S a b):ae S a b.drew:=⟨h.os,h.tape,h.output,h.size,h.block⟩
theorem ae.alloc{S:Nat→Prop}{a b:World}(h:ae S a b)(o:Obj):ae S a (b.alloc o):=
 h.below ((Below.refl _ _).alloc (Nat.le_refl _) o)
theorem ae.setCell{S:Nat→Prop}{a b:World}(h:ae S a b){p:Addr}(hp:S p.block∨a.heap.size≤p.block)(u:Value):ae S a (b.setCell p u):=
 ⟨h.os,h.tape,h.output,by simpa[World.setCell]using h.size,fun k hk hs=>by rw[Below.heap_setCell _ _ _ _ (by intro e;subst e;rcases hp with x|x;exact hs x;omega)];exact h.block k hk hs⟩
theorem ae.grown{S:Nat→Prop}{a w w':World}{row:Option Nat}(h:ae S a w)(hg:w.grownBy w' row)(hr:∀k,row=some k→S k∨a.heap.size≤k):ae S a w':=
 ⟨hg.os.trans h.os,hg.tape.trans h.tape,hg.output.trans h.output,Nat.le_trans h.size hg.size,fun k hk hs=>(hg.block k (Nat.lt_of_lt_of_le hk h.size) (fun e=>by rcases hr k e.symm with x|x;exact hs x;omega)).trans (h.block k hk hs)⟩
theorem ae.cell{S:Nat→Prop}{w w':World}(h:ae S w w'){p:Addr}(hp:p.block< w.heap.size)(hs:¬S p.block):w'.cell? p=w.cell? p:=World.cell?_of_block (h.block p.block hp hs)
theorem ae.frozen{S:Nat→Prop}{w w':World}(h:ae S w w'){p:Addr}(hp:p.block< w.heap.size)(hs:¬S p.block):w'.frozen? p=w.frozen? p:=World.frozen?_of_block (h.block p.block hp hs)
theorem ae.of_below{S:Nat→Prop}{w w':World}(h:Below w.heap.size w w'):ae S w w':=(ae.refl S w).below h
theorem ae.to_below{w w':World}(h:ae (fun _=>False) w w'):Below w.heap.size w w':=⟨h.os,h.tape,h.output,h.size,fun k hk=>h.block k hk (fun x=>x)⟩
theorem ah{w:World}{a:Addr}{v:Value}(h:w.cell? a=some v):a.block< w.heap.size:=by
 rcases Nat.lt_or_ge a.block w.heap.size with x|x
 ·exact x
 ·unfold World.cell? at h;rw[Array.getElem?_eq_none x]at h;cases h
def ao(b:Nat):Nat→Prop:=fun k=>k=b
theorem ae.set1{b:Nat}{a w:World}(h:ae (ao b) a w)(off:Nat)(u:Value):ae (ao b) a (w.setCell ⟨b,off,none⟩ u):=h.setCell (p:=⟨b,off,none⟩) (Or.inl rfl) u
end
section
abbrev aj:=List UInt8
def kP(c:UInt8):Bool:=decide (97≤c.toNat)&&decide (c.toNat≤122)
def cJ(c:UInt8):Bool:=decide (48≤c.toNat)&&decide (c.toNat≤57)
def dG(c:UInt8):Bool:=kP c||cJ c
def it(c:UInt8):Bool:=c.toNat==32||c.toNat==10
def bu(p:UInt8→Bool)(l:aj)(i:Nat):Nat:=((l.drop i).takeWhile p).length
theorem pQ(p:UInt8→Bool)(l:aj)(i k:Nat)(hk:i+k≤l.length)(h:∀j,j< k→∀h:i+j< l.length,p l[i+j]=true)(hend:∀h:i+k< l.length,p l[i+k]=false):bu p l i=k:=by
 induction k generalizing i with
 |zero=>
  unfold bu
  by_cases hi:i< l.length
  ·have:=hend hi
   rw[List.drop_eq_getElem_cons hi]
   simp only[Nat.add_zero]at this
   rw[List.takeWhile_cons,if_neg (by simp[this])];rfl
  ·rw[List.drop_eq_nil_of_le (by omega)];rfl
 |succ k ih=>
  have hi:i< l.length:=by omega
  have h0:=h 0 (by omega) hi
  have:=ih (i+1) (by omega) (fun j hj hl=>by have:=h (j+1) (by omega) (by omega);simpa[Nat.add_assoc,Nat.add_comm 1 j]using this) (fun hl=>by have:=hend (by omega);simpa[Nat.add_assoc,Nat.add_comm 1 k]using this)
  unfold bu at *
  rw[List.drop_eq_getElem_cons hi]
  simp only[Nat.add_zero]at h0
  rw[List.takeWhile_cons,if_pos h0,List.length_cons,this]
theorem gS(p:UInt8→Bool)(l:aj)(i:Nat)(hi:i≤l.length):i+bu p l i≤l.length:=by
 have:bu p l i≤(l.drop i).length:=(List.takeWhile_sublist p).length_le
 simp at this;omega
structure aI where
 k:Nat
 text:aj
 at_:Nat
 e:Nat
def sub(l:aj)(i n:Nat):aj:=(l.drop i).take n
def vk:aj:=[59,123,125,40,41,44,46,43,45,60,61]
def lz:aj:=[32,118,97,114,32,109,117,116,101,120,32,102,117,110,99,32,108,111,99,107,32,117,110,108,111,99,107,32,106,111,105,110,32,114,101,116,117,114,110,32,105,102,32,101,108,115,101,32,119,104,105,108,101,32,103,111,32,110,101,119,32]
def fH(c:UInt8):Bool:=decide (c∈vk)
def iz(t:aj):Bool:=(List.range 62).any fun i=>decide (i+(t.length+2)≤61)&&(sub lz i (t.length+2)==32::(t++[32]))
def el(l:aj)(i:Nat):aI:=
 match l[i]? with
 |none=>⟨36,[],i,0⟩
 |some c=>
  if cJ c then(if 6< bu cJ l i then⟨120,[],i,4⟩else⟨110,sub l i (bu cJ l i),i,0⟩)
  else if dG c then
   (if 6< bu dG l i then⟨120,[],i,3⟩else if iz (sub l i (bu dG l i))then⟨107,sub l i (bu dG l i),i,0⟩else⟨97,sub l i (bu dG l i),i,0⟩)
  else if fH c then
   (if sub l i 2==[61,61]then⟨115,[61,61],i,0⟩else⟨115,[c],i,0⟩)
  else⟨120,[],i,2⟩
def dO(l:aj)(i:Nat):Nat:=i+bu it l i
def de(t:aI):Bool:=t.k==36||t.k==120
def tr(l:aj)(t:aI):aI:=el l (dO l (t.at_+t.text.length))
theorem gR(l:aj)(i:Nat)(h:i≤l.length):dO l i≤l.length:=gS _ _ _ h
theorem pe(l:aj)(i:Nat):(el l i).at_=i:=by
 unfold el
 split
 ·rfl
 ·repeat' split
  all_goals rfl
theorem je(p:UInt8→Bool)(l:aj)(i:Nat)(c:UInt8)(h:l[i]?=some c)(hp:p c=true):1≤bu p l i:=by
 unfold bu
 obtain⟨hi,e⟩:=List.getElem?_eq_some_iff.1 h
 rw[List.drop_eq_getElem_cons hi,List.takeWhile_cons,e,if_pos hp]
 simp
theorem eK(l:aj)(i n:Nat)(h:i+n≤l.length):(sub l i n).length=n:=by simp[sub];omega
theorem jW(l:aj)(i:Nat)(hi:i≤l.length)(h:de (el l i)=false):1≤(el l i).text.length∧i+(el l i).text.length≤l.length:=by
 unfold el at h⊢
 cases hg:l[i]? with
 |none=>rw[hg]at h;simp[de]at h
 |some c=>
  rw[hg]at h
  obtain⟨hlt,_⟩:=List.getElem?_eq_some_iff.1 hg
  have hr1:=gS cJ l i hi
  have hr2:=gS dG l i hi
  simp only at h⊢
  by_cases h1:cJ c=true
  ·have hp:=je cJ l i c hg h1
   by_cases h2:6< bu cJ l i
   ·simp[h1,h2,de]at h
   ·simp only[h1,h2,if_true,if_false]
    rw[eK _ _ _ hr1];exact⟨hp,hr1⟩
  ·by_cases h3:dG c=true
   ·have hp:=je dG l i c hg h3
    by_cases h2:6< bu dG l i
    ·simp[h1,h2,h3,de]at h
    ·by_cases h4:iz (sub l i (bu dG l i))=true
     ·simp only[h1,h2,h3,h4,if_true,if_false]
      simp only[Bool.false_eq_true,if_false]
      rw[eK _ _ _ hr2];exact⟨hp,hr2⟩
     ·simp only[h1,h2,h3,h4,if_true,if_false]
      simp only[Bool.false_eq_true,if_false]
      rw[eK _ _ _ hr2];exact⟨hp,hr2⟩
   ·by_cases h5:fH c=true
    ·by_cases h6:(sub l i 2==[61,61])=true
     ·have:(sub l i 2).length=2:=by rw[beq_iff_eq.1 h6];rfl
      simp[sub]at this
      simp only[h1,h3,h5,h6,if_true,if_false,Bool.false_eq_true]
      simp;omega
     ·simp only[h1,h3,h5,h6,if_true,if_false,Bool.false_eq_true]
      simp;omega
    ·simp[h1,h3,h5,de]at h
inductive uX(l:aj):List aI→Nat→Prop
 |nil:uX l [] 0
 |snoc {ts:List aI} {n:Nat}:uX l ts n→de (el l (dO l n))=false→uX l (ts++[el l (dO l n)]) ((el l (dO l n)).at_+(el l (dO l n)).text.length)
def pC(l:aj)(ts:List aI):Prop:=∃ts0 n,uX l ts0 n∧de (el l (dO l n))=true∧ts=ts0++[el l (dO l n)]
theorem uX.le{l:aj}{ts:List aI}{n:Nat}(h:uX l ts n):n≤l.length∧ts.length≤n:=by
 induction h with
 |nil=>simp
 |snoc hp hf ih=>
  have h1:=jW l _ (gR l _ ih.1) hf
  rw[pe]
  have h2:∀n,n≤dO l n:=fun n=>Nat.le_add_right _ (bu it l n)
  constructor
  ·exact h1.2
  ·simp only[List.length_append,List.length_cons,List.length_nil]
   rename_i ts n
   have:=h2 n
   omega
theorem uX.get{l:aj}{ts:List aI}{n:Nat}(h:uX l ts n):∀k t,ts[k]?=some t→de t=false∧(ts++[el l (dO l n)])[k+1]?=some (tr l t):=by
 induction h with
 |nil=>intro k t h;simp at h
 |@snoc ts n hp hf ih=>
  intro k t hk
  by_cases e:k< ts.length
  ·rw[List.getElem?_append_left e]at hk
   obtain⟨h1,h2⟩:=ih k t hk
   refine⟨h1,?_⟩
   rw[List.getElem?_append_left (by simp;omega)]
   exact h2
  ·have:k=ts.length:=by
    have:=(List.getElem?_eq_some_iff.1 hk).1
    simp at this;omega
   subst this
   simp at hk
   subst hk
   refine⟨hf,?_⟩
   rw[List.getElem?_append_right (by simp)]
   simp[tr]
theorem uX.first{l:aj}{ts:List aI}{n:Nat}(h:uX l ts n):(ts++[el l (dO l n)])[0]?=some (el l (dO l 0)):=by
 induction h with
 |nil=>rfl
 |@snoc ts n hp hf ih=>
  rw[List.getElem?_append_left (by simp)]
  exact ih
structure eG(l:aj)(ts:List aI):Prop where
 first:ts[0]?=some (el l (dO l 0))
 next:∀k t,ts[k]?=some t→de t=false→ts[k+1]?=some (tr l t)
 last:∀k t,ts[k]?=some t→de t=true→k+1=ts.length
 len:ts.length≤l.length+1
theorem pC.toks{l:aj}{ts:List aI}(h:pC l ts):eG l ts:=by
 obtain⟨ts0,n,hp,hf,rfl⟩:=h
 refine⟨hp.first,?_,?_,?_⟩
 ·intro k t hk hn
  by_cases e:k< ts0.length
  ·rw[List.getElem?_append_left e]at hk
   exact(hp.get k t hk).2
  ·rw[List.getElem?_append_right (by omega)]at hk
   have:=(List.getElem?_eq_some_iff.1 hk).1
   have hz:k-ts0.length=0:=by simp at this;omega
   rw[hz]at hk
   simp at hk
   subst hk
   rw[hf]at hn;cases hn
 ·intro k t hk hn
  by_cases e:k< ts0.length
  ·rw[List.getElem?_append_left e]at hk
   rw[(hp.get k t hk).1]at hn;cases hn
  ·have:=(List.getElem?_eq_some_iff.1 hk).1
   simp at this⊢;omega
 ·have:=hp.le
  simp;omega
end
section
structure V where
 i:Nat
 e:Nat
 a:Nat
instance:Inhabited aI:=⟨⟨0,[],0,0⟩⟩
def V.ok(v:V):Bool:=v.e==0
def V.flt(v:V)(e a:Nat):V:=if v.e=0 then{v with e:=e,a:=a}else v
def V.here(ts:List aI)(v:V):aI:=(ts[v.i]?).getD default
def V.on(ts:List aI)(v:V):V:=if v.e=0∧v.i+1< ts.length then{v with i:=v.i+1}else v
def V.go1(ts:List aI)(v:V):V:=if((v.on ts).here ts).k=120 then(v.on ts).flt ((v.on ts).here ts).e ((v.on ts).here ts).at_ else v.on ts
def V.at(ts:List aI)(v:V)(s:aj):Bool:=((v.here ts).k==115||(v.here ts).k==107)&&(v.here ts).text==s
def V.must(ts:List aI)(v:V)(s:aj):V:=((if v.at ts s then v else v.flt 5 (v.here ts).at_)).go1 ts
def V.bad(ts:List aI)(v:V)(num:Bool):Bool:=(v.here ts).k !=97&&!(num&&(v.here ts).k==110)
def V.named(ts:List aI)(num:Bool)(v:V):V:=(if v.bad ts num then v.flt 5 (v.here ts).at_ else v).go1 ts
end
section
theorem V.flt_i(v:V)(e a:Nat):(v.flt e a).i=v.i:=by unfold V.flt;split<;>rfl
theorem V.on_i(ts:List aI)(v:V):v.i≤(v.on ts).i:=by
 unfold V.on;split
 ·show v.i≤v.i+1;omega
 ·exact Nat.le_refl _
theorem V.go1_i(ts:List aI)(v:V):(v.go1 ts).i=(v.on ts).i:=by
 unfold V.go1;split
 ·rw[V.flt_i]
 ·rfl
theorem V.go1_le(ts:List aI)(v:V):v.i≤(v.go1 ts).i:=by rw[V.go1_i];exact V.on_i ts v
theorem V.named_le(ts:List aI)(v:V)(num:Bool):v.i≤(v.named ts num).i:=by
 unfold V.named
 refine Nat.le_trans ?_ (V.go1_le ts _)
 split
 ·rw[V.flt_i];exact Nat.le_refl _
 ·exact Nat.le_refl _
theorem V.at_open{ts:List aI}{v:V}{s:aj}(h:v.at ts s=true):de (v.here ts)=false:=by
 unfold V.at at h
 simp only[Bool.and_eq_true,Bool.or_eq_true,beq_iff_eq]at h
 unfold de
 rcases h.1 with h|h<;>rw[h]<;>rfl
theorem V.on_next{l:aj}{ts:List aI}{v:V}(hT:eG l ts)(hi:v.i< ts.length)(hok:v.ok=true)(hf:de (v.here ts)=false):v.on ts={v with i:=v.i+1}:=by
 have hg:ts[v.i]?=some (v.here ts):=by unfold V.here;rw[List.getElem?_eq_getElem hi];rfl
 have hn:=hT.next _ _ hg hf
 have hlt:=(List.getElem?_eq_some_iff.1 hn).1
 have he:v.e=0:=by simpa[V.ok]using hok
 simp[V.on,he,hlt]
theorem V.must_at{l:aj}{ts:List aI}{v:V}{s:aj}(hT:eG l ts)(hi:v.i< ts.length)(hok:v.ok=true)(h:v.at ts s=true):(v.must ts s).i=v.i+1:=by
 unfold V.must
 rw[if_pos h,V.go1_i,V.on_next hT hi hok (V.at_open h)]
def V.listF(ts:List aI)(num:Bool):Nat→V→List aI×V
 |0,v=>([],v)
 |f+1,v=>if(v.named ts num).at ts [44]&&(v.named ts num).ok then(v.here ts::(V.listF ts num f ((v.named ts num).must ts [44])).1,(V.listF ts num f ((v.named ts num).must ts [44])).2)else([v.here ts],v.named ts num)
def V.listLoop(ts:List aI)(num:Bool)(v:V):List aI×V:=if v.at ts [41]then([],v)else V.listF ts num ts.length v
def V.list(ts:List aI)(num:Bool)(v:V):List aI×V:=((V.listLoop ts num (v.must ts [40])).1,(V.listLoop ts num (v.must ts [40])).2.must ts [41])
def cx(ts:List aI)(num:Bool)(R:List aI×V)(acc:List aI)(v:V)(m:Bool):Prop:=
 if m then∃f,R=(acc++(V.listF ts num f v).1,(V.listF ts num f v).2)∧ts.length≤f+v.i∧acc.length≤v.i else R=(acc,v)∧acc.length≤v.i+1
theorem cx.start(ts:List aI)(num:Bool)(v:V):cx ts num (V.listLoop ts num v) [] v (!v.at ts [41]):=by
 unfold cx V.listLoop
 cases v.at ts [41]
 ·simp;exact⟨ts.length,by simp,by omega⟩
 ·simp
theorem cx.more{l:aj}{ts:List aI}{num:Bool}{R:List aI×V}{acc:List aI}{v:V}(hT:eG l ts)(hi:v.i< ts.length)(hi':(v.named ts num).i< ts.length)(h:cx ts num R acc v true)(hm:((v.named ts num).at ts [44]&&(v.named ts num).ok)=true):
  cx ts num R (acc++[v.here ts]) ((v.named ts num).must ts [44]) true∧v.i< ((v.named ts num).must ts [44]).i:=by
 simp only[cx,if_true]at h⊢
 obtain⟨f,rfl,hf,ha⟩:=h
 have hm2:=hm
 simp only[Bool.and_eq_true]at hm2
 have h1:=V.must_at hT hi' hm2.2 hm2.1
 have h2:=V.named_le ts v num
 obtain⟨g,rfl⟩:∃g,f=g+1:=⟨f-1,by omega⟩
 refine⟨⟨g,?_,by omega,by simp;omega⟩,by omega⟩
 rw[V.listF,if_pos hm]
 simp
theorem cx.stop{ts:List aI}{num:Bool}{R:List aI×V}{acc:List aI}{v:V}(hi:v.i< ts.length)(h:cx ts num R acc v true)(hm:((v.named ts num).at ts [44]&&(v.named ts num).ok)=false):
  cx ts num R (acc++[v.here ts]) (v.named ts num) false:=by
 simp only[cx,if_true]at h
 obtain⟨f,rfl,hf,ha⟩:=h
 have h2:=V.named_le ts v num
 obtain⟨g,rfl⟩:∃g,f=g+1:=⟨f-1,by omega⟩
 show _=_∧_≤_
 rw[V.listF,if_neg (by simp[hm])]
 refine⟨rfl,?_⟩
 rw[List.length_append,List.length_singleton];omega
theorem cx.len{ts:List aI}{num:Bool}{R:List aI×V}{acc:List aI}{v:V}{m:Bool}(h:cx ts num R acc v m):acc.length≤v.i+1:=by
 cases m
 ·simp only[cx]at h;exact h.2
 ·simp only[cx,if_true]at h;obtain⟨_,_,_,h⟩:=h;omega
end
section
def V.side(ts:List aI)(v:V):aj×V:=
 (((v.go1 ts).here ts).text,if((v.go1 ts).here ts).text=[108]∨((v.go1 ts).here ts).text=[114]then(v.go1 ts).named ts false else((v.go1 ts).named ts false).flt 5 ((v.go1 ts).here ts).at_)
structure Hd where
 op:Nat:=0
 place:Nat:=0
 at_:Nat:=0
 mark:Nat:=0
 x:aI:=⟨0,[],0,0⟩
 y:aI:=⟨0,[],0,0⟩
 z:aI:=⟨0,[],0,0⟩
 f:aI:=⟨0,[],0,0⟩
 bin:aj:=[]
 field:aj:=[]
 args:List aI:=[]
 has:Bool:=false
inductive jG where
 |mk (h:Hd) (body els:List jG)
def Hd.sum(ts:List aI)(h:Hd)(v:V):Hd×V:=
 if(v.here ts).text=[43]∨(v.here ts).text=[45]∨(v.here ts).text=[60]∨(v.here ts).text=[61,61]then({h with bin:=(v.here ts).text,z:=(v.go1 ts).here ts},(v.go1 ts).named ts true)else(h,v)
def Hd.right(ts:List aI)(h:Hd)(v:V):Hd×V:=
 if v.at ts [110,101,119]then({h with mark:=(v.here ts).at_,op:=6},v.go1 ts)
 else if v.at ts [103,111]then({h with mark:=(v.here ts).at_,op:=7,f:=(v.go1 ts).here ts,args:=(V.list ts true ((v.go1 ts).named ts false)).1},(V.list ts true ((v.go1 ts).named ts false)).2)
 else if(v.named ts true).at ts [40]=true∧(v.here ts).k=97 then({h with mark:=(v.here ts).at_,op:=11,f:=v.here ts,y:=⟨0,[],0,0⟩,args:=(V.list ts true (v.named ts true)).1},(V.list ts true (v.named ts true)).2)
 else if(v.named ts true).at ts [46]=true∧(v.here ts).k=97 then({h with mark:=(v.here ts).at_,op:=4,y:=v.here ts,field:=(V.side ts (v.named ts true)).1},(V.side ts (v.named ts true)).2)
 else Hd.sum ts {h with mark:=(v.here ts).at_,op:=1,y:=v.here ts} (v.named ts true)
def Hd.simple(ts:List aI)(h:Hd)(v:V):Hd×V:=
 if(v.named ts false).at ts [40]then({h with op:=11,f:=v.here ts,args:=(V.list ts true (v.named ts false)).1},(V.list ts true (v.named ts false)).2)
 else if(v.named ts false).at ts [46]then
  ({h with x:=v.here ts,op:=5,field:=(V.side ts (v.named ts false)).1,y:=((V.side ts (v.named ts false)).2.must ts [61]).here ts},((V.side ts (v.named ts false)).2.must ts [61]).named ts true)
 else Hd.right ts {h with x:=v.here ts} ((v.named ts false).must ts [61])
end
section
structure PV where
 v:V
 ats:List Nat
def eM(ts:List aI)(d:Nat)(v:V):V:=(if v.at ts [123]&&decide (6≤d)then v.flt 6 (v.here ts).at_ else v).must ts [123]
def aW(ts:List aI)(body:Nat→PV→List jG×PV)(d:Nat)(pv:PV):List jG×PV:=
 ((body d ⟨eM ts d pv.v,pv.ats⟩).1,⟨(body d ⟨eM ts d pv.v,pv.ats⟩).2.v.must ts [125],(body d ⟨eM ts d pv.v,pv.ats⟩).2.ats⟩)
def dL(ts:List aI)(body:Nat→PV→List jG×PV)(d:Nat)(pv:PV):List jG×PV:=
 aW ts body (d+1) ⟨(pv.v.go1 ts).named ts true,pv.ats⟩
def kh(ts:List aI)(body:Nat→PV→List jG×PV)(d:Nat)(pv:PV):List jG×PV:=
 aW ts body (d+1) ⟨(dL ts body d pv).2.v.go1 ts,(dL ts body d pv).2.ats⟩
def iy(ts:List aI)(body:Nat→PV→List jG×PV)(d:Nat)(h:Hd)(pv:PV):jG×PV:=
 if(pv.v.here ts).text=[119,104,105,108,101]then(.mk {h with y:=(pv.v.go1 ts).here ts,op:=14} (dL ts body d pv).1 [],(dL ts body d pv).2)
 else if(dL ts body d pv).2.v.at ts [101,108,115,101]then(.mk {h with y:=(pv.v.go1 ts).here ts,op:=13,has:=true} (dL ts body d pv).1 (kh ts body d pv).1,(kh ts body d pv).2)
 else(.mk {h with y:=(pv.v.go1 ts).here ts,op:=13,has:=false} (dL ts body d pv).1 [],(dL ts body d pv).2)
def kR(pv:PV)(ts:List aI):Hd:={place:=pv.ats.length,at_:=(pv.v.here ts).at_,mark:=(pv.v.here ts).at_}
def eE(pv:PV)(ts:List aI):List Nat:=pv.ats++[(pv.v.here ts).at_]
def dH(ts:List aI)(body:Nat→PV→List jG×PV)(d:Nat)(pv:PV):jG×PV:=
 if(pv.v.here ts).text=[108,111,99,107]then(.mk {kR pv ts with op:=9,y:=(pv.v.go1 ts).here ts} [] [],⟨((pv.v.go1 ts).named ts false).must ts [59],eE pv ts⟩)
 else if(pv.v.here ts).text=[117,110,108,111,99,107]then(.mk {kR pv ts with op:=10,y:=(pv.v.go1 ts).here ts} [] [],⟨((pv.v.go1 ts).named ts false).must ts [59],eE pv ts⟩)
 else if(pv.v.here ts).text=[106,111,105,110]then(.mk {kR pv ts with op:=8,y:=(pv.v.go1 ts).here ts} [] [],⟨((pv.v.go1 ts).named ts false).must ts [59],eE pv ts⟩)
 else if(pv.v.here ts).text=[114,101,116,117,114,110]then
  (if(pv.v.go1 ts).at ts [59]then(.mk {kR pv ts with op:=12} [] [],⟨(pv.v.go1 ts).must ts [59],eE pv ts⟩)
  else(.mk {kR pv ts with op:=12,has:=true,y:=(pv.v.go1 ts).here ts} [] [],⟨((pv.v.go1 ts).named ts true).must ts [59],eE pv ts⟩))
 else if(pv.v.here ts).text=[105,102]∨(pv.v.here ts).text=[119,104,105,108,101]then iy ts body d (kR pv ts) ⟨pv.v,eE pv ts⟩
 else if(pv.v.here ts).text=[103,111]then
  (.mk {kR pv ts with op:=7,f:=(pv.v.go1 ts).here ts,args:=(V.list ts true ((pv.v.go1 ts).named ts false)).1} [] [],⟨(V.list ts true ((pv.v.go1 ts).named ts false)).2.must ts [59],eE pv ts⟩)
 else(.mk (Hd.simple ts (kR pv ts) pv.v).1 [] [],⟨(Hd.simple ts (kR pv ts) pv.v).2.must ts [59],eE pv ts⟩)
def aD(ts:List aI):Nat→Nat→PV→List jG×PV
 |0,_,pv=>([],pv)
 |f+1,d,pv=>if pv.v.at ts [125]||!pv.v.ok then([],pv)else
   ((dH ts (aD ts f) d pv).1::(aD ts f d (dH ts (aD ts f) d pv).2).1,(aD ts f d (dH ts (aD ts f) d pv).2).2)
end
section
theorem V.flt_ok{v:V}{e a:Nat}(h:(v.flt e a).ok=true):v.ok=true:=by
 unfold V.flt at h
 split at h
 ·rename_i h0;simp[V.ok,h0]
 ·exact h
theorem V.flt_bad{v:V}{e a:Nat}(he:e≠0):(v.flt e a).ok=false:=by
 unfold V.flt
 split
 ·simp[V.ok,he]
 ·rename_i h0;simp[V.ok,h0]
theorem V.on_ok(ts:List aI)(v:V):(v.on ts).ok=v.ok:=by unfold V.on;split<;>rfl
theorem V.go1_ok{ts:List aI}{v:V}(h:(v.go1 ts).ok=true):v.ok=true:=by
 unfold V.go1 at h
 split at h
 ·have:=V.flt_ok h;rwa [V.on_ok]at this
 ·rwa [V.on_ok]at h
theorem V.on_lt{ts:List aI}{v:V}(h:v.i< ts.length):(v.on ts).i< ts.length:=by
 unfold V.on;split
 ·rename_i x;exact x.2
 ·exact h
theorem V.go1_lt{ts:List aI}{v:V}(h:v.i< ts.length):(v.go1 ts).i< ts.length:=by rw[V.go1_i];exact V.on_lt h
structure cK(ts:List aI)(k:Nat)(v v':V):Prop where
 lt:v'.i< ts.length
 ok:v'.ok=true→v.ok=true∧v.i+k≤v'.i
theorem cK.refl{ts:List aI}{v:V}(h:v.i< ts.length):cK ts 0 v v:=⟨h,fun h=>⟨h,by omega⟩⟩
theorem cK.trans{ts:List aI}{j k:Nat}{a b c:V}(h:cK ts j a b)(g:cK ts k b c):cK ts (j+k) a c:=
 ⟨g.lt,fun x=>by have h1:=g.ok x;have h2:=h.ok h1.1;exact⟨h2.1,by omega⟩⟩
theorem cK.weak{ts:List aI}{j k:Nat}{a b:V}(h:cK ts j a b)(hk:k≤j):cK ts k a b:=⟨h.lt,fun x=>⟨(h.ok x).1,by have:=(h.ok x).2;omega⟩⟩
theorem cK.flt{ts:List aI}{v:V}(e a:Nat)(h:v.i< ts.length):cK ts 0 v (v.flt e a):=⟨by rw[V.flt_i];exact h,fun x=>⟨V.flt_ok x,by rw[V.flt_i];omega⟩⟩
theorem cK.go0{ts:List aI}{v:V}(h:v.i< ts.length):cK ts 0 v (v.go1 ts):=⟨V.go1_lt h,fun x=>⟨V.go1_ok x,by have:=V.go1_le ts v;omega⟩⟩
theorem cK.go1{l:aj}{ts:List aI}{v:V}(hT:eG l ts)(h:v.i< ts.length)(hf:de (v.here ts)=false):cK ts 1 v (v.go1 ts):=
 ⟨V.go1_lt h,fun x=>⟨V.go1_ok x,by rw[V.go1_i,V.on_next hT h (V.go1_ok x) hf];exact Nat.le_refl _⟩⟩
theorem cK.must{l:aj}{ts:List aI}{v:V}(s:aj)(hT:eG l ts)(h:v.i< ts.length):cK ts 1 v (v.must ts s):=by
 unfold V.must
 by_cases ha:v.at ts s=true
 ·rw[if_pos ha];exact cK.go1 hT h (V.at_open ha)
 ·rw[if_neg ha]
  refine⟨V.go1_lt (by rw[V.flt_i];exact h),fun x=>?_⟩
  have:=V.go1_ok x
  rw[V.flt_bad (by decide)]at this;cases this
theorem cK.named{l:aj}{ts:List aI}{v:V}(num:Bool)(hT:eG l ts)(h:v.i< ts.length):cK ts 1 v (v.named ts num):=by
 unfold V.named
 by_cases ha:v.bad ts num=true
 ·rw[if_pos ha]
  refine⟨V.go1_lt (by rw[V.flt_i];exact h),fun x=>?_⟩
  have:=V.go1_ok x
  rw[V.flt_bad (by decide)]at this;cases this
 ·rw[if_neg ha]
  refine cK.go1 hT h ?_
  unfold V.bad at ha
  unfold de
  cases num<;>simp at ha⊢<;>omega
theorem cK.listF{l:aj}{ts:List aI}(num:Bool)(hT:eG l ts)(f:Nat):∀v:V,v.i< ts.length→cK ts 0 v (V.listF ts num f v).2:=by
 induction f with
 |zero=>intro v h;exact cK.refl h
 |succ f ih=>
  intro v h
  have h1:=cK.named num hT h
  unfold V.listF
  split
  ·have h2:=cK.must [44] hT h1.lt
   exact((h1.trans h2).trans (ih _ h2.lt)).weak (by omega)
  ·exact h1.weak (by omega)
theorem cK.list{l:aj}{ts:List aI}{v:V}(num:Bool)(hT:eG l ts)(h:v.i< ts.length):cK ts 2 v (V.list ts num v).2:=by
 have h1:=cK.must [40] hT h
 unfold V.list V.listLoop
 simp only
 split
 ·exact h1.trans (cK.must [41] hT h1.lt)
 ·have h2:=cK.listF num hT ts.length _ h1.lt
  exact(h1.trans h2).trans (cK.must [41] hT h2.lt)
theorem cK.side{l:aj}{ts:List aI}{v:V}(hT:eG l ts)(h:v.i< ts.length):cK ts 1 v (V.side ts v).2:=by
 have h1:=(cK.go0 h).trans (cK.named false hT (V.go1_lt h))
 unfold V.side
 simp only
 split
 ·exact h1.weak (by omega)
 ·exact(h1.trans (cK.flt _ _ h1.lt)).weak (by omega)
theorem cK.sum{l:aj}{ts:List aI}{v:V}(h:Hd)(hT:eG l ts)(hi:v.i< ts.length):cK ts 0 v (Hd.sum ts h v).2:=by
 unfold Hd.sum
 split
 ·exact((cK.go0 hi).trans (cK.named true hT (V.go1_lt hi))).weak (by omega)
 ·exact cK.refl hi
theorem cK.right{l:aj}{ts:List aI}{v:V}(h:Hd)(hT:eG l ts)(hi:v.i< ts.length):cK ts 0 v (Hd.right ts h v).2:=by
 have hg:=cK.go0 hi
 have hn:=cK.named true hT hi
 unfold Hd.right
 split
 ·exact hg
 ·split
  ·have h2:=cK.named false hT hg.lt
   exact((hg.trans h2).trans (cK.list true hT h2.lt)).weak (by omega)
  ·split
   ·exact(hn.trans (cK.list true hT hn.lt)).weak (by omega)
   ·split
    ·exact(hn.trans (cK.side hT hn.lt)).weak (by omega)
    ·exact(hn.trans (cK.sum _ hT hn.lt)).weak (by omega)
theorem cK.simple{l:aj}{ts:List aI}{v:V}(h:Hd)(hT:eG l ts)(hi:v.i< ts.length):cK ts 1 v (Hd.simple ts h v).2:=by
 have hn:=cK.named false hT hi
 unfold Hd.simple
 split
 ·exact(hn.trans (cK.list true hT hn.lt)).weak (by omega)
 ·split
  ·have h2:=cK.side hT hn.lt
   have h3:=cK.must [61] hT h2.lt
   exact(((hn.trans h2).trans h3).trans (cK.named true hT h3.lt)).weak (by omega)
  ·have h3:=cK.must [61] hT hn.lt
   exact((hn.trans h3).trans (cK.right _ hT h3.lt)).weak (by omega)
def dT(pv:PV):Prop:=pv.v.ok=true→pv.ats.length≤pv.v.i
def eQ(ts:List aI)(body:Nat→PV→List jG×PV):Prop:=∀d pv,dT pv→pv.v.i< ts.length→dT (body d pv).2∧cK ts 0 pv.v (body d pv).2.v
theorem eQ.block{l:aj}{ts:List aI}{body:Nat→PV→List jG×PV}(hT:eG l ts)(hb:eQ ts body)(d:Nat)(pv:PV)(hg:dT pv)(hi:pv.v.i< ts.length):dT (aW ts body d pv).2∧cK ts 1 pv.v (aW ts body d pv).2.v:=by
 have h1:cK ts 1 pv.v (eM ts d pv.v):=by
  unfold eM
  split
  ·exact(cK.flt 6 _ hi).trans (cK.must _ hT (by rw[V.flt_i];exact hi))
  ·exact cK.must _ hT hi
 have hg1:dT ⟨eM ts d pv.v,pv.ats⟩:=fun x=>by
  have h2:=h1.ok x
  have:=hg h2.1
  show pv.ats.length≤(eM ts d pv.v).i
  omega
 have h2:=hb d _ hg1 h1.lt
 have h3:=cK.must [125] hT h2.2.lt
 refine⟨fun x=>?_,((h1.trans h2.2).trans h3).weak (by omega)⟩
 have h4:=h3.ok x
 have:=h2.1 h4.1
 show _≤V.i (V.must ts _ [125])
 exact Nat.le_trans this (by omega)
theorem kG(l:aj)(i:Nat)(h:de (el l i)=true):(el l i).text=[]:=by
 revert h
 unfold el
 cases l[i]? with
 |none=>intro _;rfl
 |some c=>
  simp only
  repeat' split
  all_goals first
   |(intro _;rfl)
   |(intro h;simp[de]at h)
theorem eG.ex{l:aj}{ts:List aI}(hT:eG l ts):∀(k:Nat) (t:aI),ts[k]?=some t→∃i,i≤l.length∧t=el l i:=by
 intro k
 induction k with
 |zero=>intro t h;rw[hT.first]at h;cases h;exact⟨_,gR l 0 (Nat.zero_le _),rfl⟩
 |succ k ih=>
  intro t h
  have hlt:=(List.getElem?_eq_some_iff.1 h).1
  have hk:ts[k]?=some ts[k]:=List.getElem?_eq_getElem (by omega)
  cases hf:de ts[k]
  ·obtain⟨i,hi,e⟩:=ih _ hk
   have hn:=hT.next _ _ hk hf
   rw[h]at hn;cases hn
   refine⟨_,gR l _ ?_,rfl⟩
   rw[e]at hf⊢
   have:=jW l i hi hf
   rw[pe];exact this.2
  ·have:=hT.last _ _ hk hf;omega
theorem V.here_open{l:aj}{ts:List aI}{v:V}(hT:eG l ts)(hi:v.i< ts.length)(h:(v.here ts).text≠[]):de (v.here ts)=false:=by
 have hg:ts[v.i]?=some (v.here ts):=by unfold V.here;rw[List.getElem?_eq_getElem hi];rfl
 obtain⟨i,_,e⟩:=hT.ex _ _ hg
 cases hf:de (v.here ts)
 ·rfl
 ·rw[e]at hf h;exact absurd (kG l i hf) h
theorem dT.of{ts:List aI}{pv:PV}{v':V}{a:Nat}(hg:dT pv)(h:cK ts 1 pv.v v'):dT ⟨v',pv.ats++[a]⟩:=fun x=>by
 have h1:=h.ok x
 have h2:=hg h1.1
 show(pv.ats++[a]).length≤v'.i
 simp;omega
theorem eQ.choice{l:aj}{ts:List aI}{body:Nat→PV→List jG×PV}(hT:eG l ts)(hb:eQ ts body)(d:Nat)(h:Hd)(pv:PV)(a:Nat)(hg:dT pv)(hi:pv.v.i< ts.length)(hx:(pv.v.here ts).text≠[]):
  dT (iy ts body d h ⟨pv.v,pv.ats++[a]⟩).2∧cK ts 1 pv.v (iy ts body d h ⟨pv.v,pv.ats++[a]⟩).2.v:=by
 have h1:=cK.go1 hT hi (V.here_open hT hi hx)
 have h2:=h1.trans (cK.named true hT h1.lt)
 have g1:dT ⟨(pv.v.go1 ts).named ts true,pv.ats++[a]⟩:=hg.of (h2.weak (by omega))
 have h3:=eQ.block hT hb (d+1) _ g1 h2.lt
 have h4:dT (dL ts body d ⟨pv.v,pv.ats++[a]⟩).2∧cK ts 1 ((pv.v.go1 ts).named ts true) (dL ts body d ⟨pv.v,pv.ats++[a]⟩).2.v:=h3
 have h5:=h2.trans h4.2
 unfold iy
 split
 ·exact⟨h4.1,h5.weak (by omega)⟩
 ·split
  ·have h6:=cK.go0 h4.2.lt
   have g6:dT ⟨(dL ts body d ⟨pv.v,pv.ats++[a]⟩).2.v.go1 ts,(dL ts body d ⟨pv.v,pv.ats++[a]⟩).2.ats⟩:=fun x=>by
    have:=h4.1 (V.go1_ok x)
    exact Nat.le_trans this (V.go1_le _ _)
   have h7:=eQ.block hT hb (d+1) _ g6 h6.lt
   have h8:dT (kh ts body d ⟨pv.v,pv.ats++[a]⟩).2∧cK ts 1 ((dL ts body d ⟨pv.v,pv.ats++[a]⟩).2.v.go1 ts) (kh ts body d ⟨pv.v,pv.ats++[a]⟩).2.v:=h7
   exact⟨h8.1,((h5.trans h6).trans h8.2).weak (by omega)⟩
  ·exact⟨h4.1,h5.weak (by omega)⟩
theorem eQ.stmt{l:aj}{ts:List aI}{body:Nat→PV→List jG×PV}(hT:eG l ts)(hb:eQ ts body)(d:Nat)(pv:PV)(hg:dT pv)(hi:pv.v.i< ts.length):
  dT (dH ts body d pv).2∧cK ts 1 pv.v (dH ts body d pv).2.v:=by
 have key:(pv.v.here ts).text≠[]→cK ts 1 pv.v (pv.v.go1 ts):=fun hx=>cK.go1 hT hi (V.here_open hT hi hx)
 have fin:∀v',cK ts 1 pv.v v'→dT ⟨v'.must ts [59],eE pv ts⟩∧cK ts 1 pv.v (v'.must ts [59]):=fun v' h=>
  have h2:=(h.trans (cK.must [59] hT h.lt)).weak (k:=1) (by omega)
  ⟨hg.of h2,h2⟩
 unfold dH
 repeat' split
 ·rename_i hx
  have h1:=key (by rw[hx];simp)
  exact fin _ ((h1.trans (cK.named false hT h1.lt)).weak (by omega))
 ·rename_i hx
  have h1:=key (by rw[hx];simp)
  exact fin _ ((h1.trans (cK.named false hT h1.lt)).weak (by omega))
 ·rename_i hx
  have h1:=key (by rw[hx];simp)
  exact fin _ ((h1.trans (cK.named false hT h1.lt)).weak (by omega))
 ·rename_i hx _
  exact fin _ (key (by rw[hx];simp))
 ·rename_i hx _
  have h1:=key (by rw[hx];simp)
  exact fin _ ((h1.trans (cK.named true hT h1.lt)).weak (by omega))
 ·rename_i hx
  exact eQ.choice hT hb d _ pv _ hg hi (by rcases hx with h|h<;>rw[h]<;>simp)
 ·rename_i hx
  have h1:=key (by rw[hx];simp)
  have h2:=cK.named false hT h1.lt
  exact fin _ (((h1.trans h2).trans (cK.list true hT h2.lt)).weak (by omega))
 ·exact fin _ (cK.simple _ hT hi)
theorem eQ.stmts{l:aj}{ts:List aI}(hT:eG l ts)(f:Nat):eQ ts (aD ts f):=by
 induction f with
 |zero=>intro d pv hg hi;exact⟨hg,cK.refl hi⟩
 |succ f ih=>
  intro d pv hg hi
  unfold aD
  split
  ·exact⟨hg,cK.refl hi⟩
  ·have h1:=eQ.stmt hT ih d pv hg hi
   have h2:=ih d _ h1.1 h1.2.lt
   exact⟨h2.1,(h1.2.trans h2.2).weak (by omega)⟩
end
section
structure sZ where
 kind:Nat
 name:aI
 params:List aI
 body:List jG
def mF(ts:List aI)(pv:PV):List jG×PV:=aW ts (aD ts ts.length) 0 ⟨(V.list ts false ((pv.v.go1 ts).named ts false)).2,pv.ats⟩
def dU(ts:List aI)(s:List sZ×PV):List sZ×PV:=
 if(s.2.v.here ts).text=[118,97,114]then(s.1++[⟨118,(s.2.v.go1 ts).here ts,[],[]⟩],⟨((s.2.v.go1 ts).named ts false).must ts [59],s.2.ats⟩)
 else if(s.2.v.here ts).text=[109,117,116,101,120]then(s.1++[⟨109,(s.2.v.go1 ts).here ts,[],[]⟩],⟨((s.2.v.go1 ts).named ts false).must ts [59],s.2.ats⟩)
 else if(s.2.v.here ts).text=[102,117,110,99]then(s.1++[⟨102,(s.2.v.go1 ts).here ts,(V.list ts false ((s.2.v.go1 ts).named ts false)).1,(mF ts s.2).1⟩],(mF ts s.2).2)
 else(s.1,⟨s.2.v.flt 5 (s.2.v.here ts).at_,s.2.ats⟩)
def fZ(ts:List aI):Nat→List sZ×PV→List sZ×PV
 |0,s=>s
 |f+1,s=>if !s.2.v.ok||(s.2.v.here ts).k==36 then s else fZ ts f (dU ts s)
theorem dT.step{ts:List aI}{k:Nat}{pv:PV}{v':V}(hg:dT pv)(h:cK ts k pv.v v'):dT ⟨v',pv.ats⟩:=fun x=>by
 have h1:=h.ok x
 have h2:=hg h1.1
 show pv.ats.length≤v'.i
 omega
theorem eQ.decl{l:aj}{ts:List aI}(hT:eG l ts)(s:List sZ×PV)(hg:dT s.2)(hi:s.2.v.i< ts.length):
  dT (dU ts s).2∧cK ts 0 s.2.v (dU ts s).2.v∧((dU ts s).2.v.ok=true→s.2.v.i+1≤(dU ts s).2.v.i∧(dU ts s).1.length≤s.1.length+1):=by
 have key:(s.2.v.here ts).text≠[]→cK ts 2 s.2.v ((s.2.v.go1 ts).named ts false):=fun hx=>
  have h1:=cK.go1 hT hi (V.here_open hT hi hx)
  h1.trans (cK.named false hT h1.lt)
 unfold dU
 split
 ·rename_i hx
  have h1:=key (by rw[hx];simp)
  have h2:=h1.trans (cK.must [59] hT h1.lt)
  exact⟨hg.step h2,h2.weak (by omega),fun x=>⟨by have:=(h2.ok x).2;show s.2.v.i+1≤(((s.2.v.go1 ts).named ts false).must ts [59]).i;omega,by simp⟩⟩
 ·split
  ·rename_i hx
   have h1:=key (by rw[hx];simp)
   have h2:=h1.trans (cK.must [59] hT h1.lt)
   exact⟨hg.step h2,h2.weak (by omega),fun x=>⟨by have:=(h2.ok x).2;show s.2.v.i+1≤(((s.2.v.go1 ts).named ts false).must ts [59]).i;omega,by simp⟩⟩
  ·split
   ·rename_i hx
    have h1:=key (by rw[hx];simp)
    have h2:=h1.trans (cK.list false hT h1.lt)
    have h3:=eQ.block hT (eQ.stmts hT ts.length) 0 ⟨(V.list ts false ((s.2.v.go1 ts).named ts false)).2,s.2.ats⟩ (hg.step h2) h2.lt
    have h4:=h2.trans h3.2
    exact⟨h3.1,h4.weak (by omega),fun x=>⟨by have:=(h4.ok x).2;show s.2.v.i+1≤(mF ts s.2).2.v.i;unfold mF;omega,by simp⟩⟩
   ·refine⟨hg.step (cK.flt 5 _ hi),cK.flt 5 _ hi,fun x=>?_⟩
    rw[V.flt_bad (by decide)]at x;cases x
theorem jC{ts:List aI}{g:Nat}{s:List sZ×PV}(h:(!s.2.v.ok||(s.2.v.here ts).k==36)=true):fZ ts g s=s:=by
 cases g with
 |zero=>rfl
 |succ g=>rw[fZ,if_pos h]
theorem uG{ts:List aI}{g:Nat}{s:List sZ×PV}(h:(!s.2.v.ok||(s.2.v.here ts).k==36)=false):fZ ts (g+1) s=fZ ts g (dU ts s):=by
 rw[fZ,if_neg (by simp[h])]
def gI(ts:List aI):V:=if(V.here ts ⟨0,0,0⟩).k=120 then V.flt ⟨0,0,0⟩ (V.here ts ⟨0,0,0⟩).e (V.here ts ⟨0,0,0⟩).at_ else⟨0,0,0⟩
def be(ts:List aI):List sZ×PV:=fZ ts ts.length ([],⟨gI ts,[]⟩)
end
section
section
variable {ts:List aI} {v:V}
theorem V.no_e(h:v.ok=false):v.e≠0:=by simpa[V.ok]using h
theorem V.flt_no(h:v.ok=false)(e a:Nat):v.flt e a=v:=by unfold V.flt;rw[if_neg (V.no_e h)]
theorem V.on_no(h:v.ok=false):v.on ts=v:=by unfold V.on;rw[if_neg (fun x=>V.no_e h x.1)]
theorem V.go1_no(h:v.ok=false):v.go1 ts=v:=by unfold V.go1;rw[V.on_no h];split<;>first|exact V.flt_no h _ _|rfl
theorem V.must_no(h:v.ok=false)(s:aj):v.must ts s=v:=by unfold V.must;rw[V.flt_no h,ite_self,V.go1_no h]
theorem V.named_no(h:v.ok=false)(num:Bool):v.named ts num=v:=by unfold V.named;rw[V.flt_no h,ite_self,V.go1_no h]
theorem V.list_no(h:v.ok=false)(num:Bool):(V.list ts num v).2=v:=by
 unfold V.list
 simp only[V.must_no h]
 have:(V.listLoop ts num v).2=v:=by
  unfold V.listLoop
  split
  ·rfl
  ·cases ts.length with
   |zero=>rfl
   |succ f=>simp[V.listF,V.named_no h,h]
 rw[this,V.must_no h]
theorem V.side_no(h:v.ok=false):(V.side ts v).2=v:=by
 unfold V.side
 simp only[V.go1_no h,V.named_no h,V.flt_no h,ite_self]
theorem Hd.sum_no(h:v.ok=false)(d:Hd):(Hd.sum ts d v).2=v:=by
 unfold Hd.sum
 split<;>simp[V.go1_no h,V.named_no h]
theorem Hd.right_no(h:v.ok=false)(d:Hd):(Hd.right ts d v).2=v:=by
 unfold Hd.right
 repeat' split
 all_goals simp[V.go1_no h,V.named_no h,V.list_no h,V.side_no h,Hd.sum_no h]
theorem uL(h:v.ok=false)(d:Nat):eM ts d v=v:=by unfold eM;rw[V.flt_no h,ite_self,V.must_no h]
end
theorem kv{ts:List aI}{pv:PV}(h:pv.v.ok=false)(f d:Nat):aD ts f d pv=([],pv):=by
 cases f with
 |zero=>rfl
 |succ f=>rw[aD,if_pos (by simp[h])]
theorem eu{ts:List aI}{pv:PV}(h:pv.v.ok=false)(f d:Nat):(aW ts (aD ts f) d pv).2.v=pv.v:=by
 unfold aW
 simp only[uL h]
 rw[kv (pv:=⟨pv.v,pv.ats⟩) h]
 exact V.must_no h _
theorem tB(l:aj)(i:Nat)(h:(el l i).k=120):(el l i).e≠0:=by
 unfold el at h⊢
 split at h
 ·simp at h
 ·repeat' split at h
  all_goals(first|(simp at h;done)|skip)
  all_goals simp_all
theorem V.here_lex{l:aj}{ts:List aI}{v:V}(hT:eG l ts)(hi:v.i< ts.length):∃i,i≤l.length∧v.here ts=el l i:=by
 have hg:ts[v.i]?=some (v.here ts):=by unfold V.here;rw[List.getElem?_eq_getElem hi];rfl
 exact hT.ex _ _ hg
end
section
theorem pI{l:aj}:∀(m:Nat) {ts:List aI} {n:Nat},uX l ts n→l.length-n≤m→∃ts',eG l ts':=by
 intro m
 induction m with
 |zero=>
  intro ts n h hm
  cases hf:de (el l (dO l n))with
  |true=>exact⟨_,pC.toks ⟨ts,n,h,hf,rfl⟩⟩
  |false=>
   have h1:=jW l _ (gR l n h.le.1) hf
   have h2:n≤dO l n:=Nat.le_add_right _ _
   omega
 |succ m ih=>
  intro ts n h hm
  cases hf:de (el l (dO l n))with
  |true=>exact⟨_,pC.toks ⟨ts,n,h,hf,rfl⟩⟩
  |false=>
   have h1:=jW l _ (gR l n h.le.1) hf
   have h2:n≤dO l n:=Nat.le_add_right _ _
   have h3:=pe l (dO l n)
   exact ih (uX.snoc h hf) (by omega)
theorem xu(l:aj):∃ts,eG l ts:=pI l.length (uX.nil) (by omega)
end
section
open Go.RowKit
theorem bJ(s:ByteArray):s.data.toList.length=s.size:=rfl
theorem kK(s:ByteArray)(i n:Nat):s.extract i (i+n)=⟨(sub s.data.toList i n).toArray⟩:=by
 rw[Lib.extract_eq];simp[sub]
theorem qI(s:ByteArray)(i:Nat)(h:i< s.size):s.data.toList[i]?=some s[i]:=List.getElem?_eq_getElem (l:=s.data.toList) h
theorem xy(s:ByteArray)(i:Nat)(h:i< s.size):sub s.data.toList i 1=[s[i]]:=by
 unfold sub
 have h':i< s.data.toList.length:=h
 rw[List.drop_eq_getElem_cons h']
 rfl
theorem xz(s:ByteArray)(i n:Nat)(h:i+n≤s.size):(s.extract i (i+n)).size≤n:=by
 simp;omega
theorem ay{w w':World}{B e size n:Nat}{v:Value}{xs:List Value}(h:w.ownsRow B e size v n xs)(hb:Below w.heap.size w w'):w'.ownsRow B e size v n xs:=by
 refine⟨h.1,?_⟩
 rcases h.2 with hn|⟨g,cap,cur,hv,hg,hh,r⟩
 ·exact Or.inl hn
 ·have hlt:g< w.heap.size:=by
   rcases Nat.lt_or_ge g w.heap.size with h|h
   ·exact h
   ·rw[Array.getElem?_eq_none h]at hh;cases hh
  exact Or.inr ⟨g,cap,cur,hv,hg,by rw[hb.block g hlt];exact hh,r⟩
theorem aF(w:World)(cs:Array Value)(t:TypeId)(B:Nat)(hB:B=w.heap.size):∀j u,cs.toList[j]?=some u→(w.alloc (.cells cs t)).cell? ((⟨B,0,none⟩:Addr).add j)=some u:=by
 intro j u hj
 subst hB
 have e:(⟨w.heap.size,0,none⟩:Addr).add j=⟨w.heap.size,j,none⟩:=by
  simp[Addr.add]
  intro h;exact h.symm
 rw[e,World.cell?_alloc_new]
 simpa using hj
theorem qj{w w':World}{B e size n b:Nat}{v:Value}{xs:List Value}(h:w.ownsRow B e size v n xs)(hb:ae (ao b) w w')(hne:b< B):w'.ownsRow B e size v n xs:=by
 refine⟨h.1,?_⟩
 rcases h.2 with hn|⟨g,cap,cur,hv,hg,hh,r⟩
 ·exact Or.inl hn
 ·have hlt:g< w.heap.size:=by
   rcases Nat.lt_or_ge g w.heap.size with h|h
   ·exact h
   ·rw[Array.getElem?_eq_none h]at hh;cases hh
  exact Or.inr ⟨g,cap,cur,hv,hg,by rw[hb.block g hlt (by unfold ao;omega)];exact hh,r⟩
structure an(w:World)(B:Nat)(A:Array Value):Prop where
 cell:∀j,w.cell? ⟨B,j,none⟩=A[j]?
 fz:∀j,w.frozen? ⟨B,j,none⟩=false
 lt:B< w.heap.size
theorem an.kept{S:Nat→Prop}{w w':World}{B:Nat}{A:Array Value}(h:an w B A)(k:ae S w w')(hs:¬S B):an w' B A:=
 ⟨fun j=>by rw[k.cell (p:=⟨B,j,none⟩) h.lt hs];exact h.cell j,fun j=>by rw[k.frozen (p:=⟨B,j,none⟩) h.lt hs];exact h.fz j,Nat.lt_of_lt_of_le h.lt k.size⟩
theorem an.only{b:Nat}{w w':World}{B:Nat}{A:Array Value}(h:an w B A)(k:ae (ao b) w w')(hs:B≠b):an w' B A:=h.kept k hs
theorem an.below{w w':World}{B:Nat}{A:Array Value}(h:an w B A)(k:Below w.heap.size w w'):an w' B A:=h.kept (S:=fun _=>False) (ae.of_below k) (fun x=>x)
theorem an.alloc{w:World}{B:Nat}{A:Array Value}(h:an w B A)(o:Obj):an (w.alloc o) B A:=h.below ((Below.refl _ _).alloc (Nat.le_refl _) o)
theorem an.new(w:World)(A:Array Value)(t:TypeId):an (w.alloc (.cells A t)) w.heap.size A:=
 ⟨fun j=>World.cell?_alloc_new w A t j,fun j=>World.frozen?_alloc_new w A t j,by simp⟩
theorem an.setO{w:World}{B:Nat}{A:Array Value}(h:an w B A)(b j:Nat)(u:Value)(hne:B≠b):an (w.setCell ⟨b,j,none⟩ u) B A:=
 h.kept (S:=ao b) ((ae.refl _ w).set1 j u) hne
theorem an.set{w:World}{B:Nat}{A:Array Value}(h:an w B A)(j:Nat)(u:Value)(hj:j< A.size):an (w.setCell ⟨B,j,none⟩ u) B (A.setIfInBounds j u):=by
 refine⟨fun i=>?_,fun i=>by simp[h.fz i],by simpa[World.setCell]using h.lt⟩
 by_cases e:i=j
 ·subst e
  have hc:=h.cell i
  rw[Array.getElem?_eq_getElem hj]at hc
  rw[World.cell?_setCell_same _ _ _ hc]
  simp[hj]
 ·rw[World.cell?_setCell_other,h.cell i]
  ·simp[Array.getElem?_setIfInBounds,Ne.symm e]
  ·simp[e]
theorem an.at{w:World}{B:Nat}{A:Array Value}(h:an w B A)(j:Nat)(hj:j< A.size):w.cell? ⟨B,j,none⟩=some A[j]:=by
 rw[h.cell j,Array.getElem?_eq_getElem hj]
def eZ(b c:Nat):Nat→Prop:=fun k=>k=b∨k=c
def jl(h:Hd)(sa sb se:Value):Array Value:=#[.int .i64 h.op,.int .i64 h.place,.int .i64 h.at_,.int .i64 h.mark,
 .int .u8 h.x.k,.string ⟨h.x.text.toArray⟩,.int .i64 h.x.at_,.int .i64 h.x.e,.int .u8 h.y.k,.string ⟨h.y.text.toArray⟩,.int .i64 h.y.at_,.int .i64 h.y.e,
 .int .u8 h.z.k,.string ⟨h.z.text.toArray⟩,.int .i64 h.z.at_,.int .i64 h.z.e,.int .u8 h.f.k,.string ⟨h.f.text.toArray⟩,.int .i64 h.f.at_,.int .i64 h.f.e,
 .string ⟨h.bin.toArray⟩,.string ⟨h.field.toArray⟩,sa,sb,se,.bool h.has]
section
variable {w:World} {b:Nat} {h:Hd} {sa sb se:Value}
theorem an.op(H:an w b (jl h sa sb se))(m:Nat)(z:Int)(e:z=m):an (w.setCell ⟨b,0,none⟩ (.int .i64 z)) b (jl {h with op:=m} sa sb se):=by subst e;exact H.set 0 _ (show 0< 26 by decide)
theorem an.mark(H:an w b (jl h sa sb se))(m:Nat):an (w.setCell ⟨b,3,none⟩ (.int .i64 m)) b (jl {h with mark:=m} sa sb se):=H.set 3 _ (show 3< 26 by decide)
theorem an.bin(H:an w b (jl h sa sb se))(l:aj):an (w.setCell ⟨b,20,none⟩ (.string ⟨l.toArray⟩)) b (jl {h with bin:=l} sa sb se):=H.set 20 _ (show 20< 26 by decide)
theorem an.field(H:an w b (jl h sa sb se))(l:aj):an (w.setCell ⟨b,21,none⟩ (.string ⟨l.toArray⟩)) b (jl {h with field:=l} sa sb se):=H.set 21 _ (show 21< 26 by decide)
theorem an.args(H:an w b (jl h sa sb se))(l:List aI)(u:Value):an (w.setCell ⟨b,22,none⟩ u) b (jl {h with args:=l} u sb se):=H.set 22 _ (show 22< 26 by decide)
theorem an.body(H:an w b (jl h sa sb se))(u:Value):an (w.setCell ⟨b,23,none⟩ u) b (jl h sa u se):=H.set 23 _ (show 23< 26 by decide)
theorem an.els(H:an w b (jl h sa sb se))(u:Value):an (w.setCell ⟨b,24,none⟩ u) b (jl h sa sb u):=H.set 24 _ (show 24< 26 by decide)
theorem an.has(H:an w b (jl h sa sb se))(u:Bool):an (w.setCell ⟨b,25,none⟩ (.bool u)) b (jl {h with has:=u} sa sb se):=H.set 25 _ (show 25< 26 by decide)
end
theorem an.new'(w:World)(A:Array Value)(t:TypeId)(B:Nat)(hB:w.heap.size=B):an (w.alloc (.cells A t)) B A:=hB▸an.new w A t
theorem ai{w:World}{B e size n:Nat}{v:Value}{xs:List Value}(h:w.ownsRow B e size v n xs):∃p c,v=.slice p n c:=by
 rcases h.2 with⟨hn,rfl⟩|⟨g,cap,cur,hv,_⟩
 ·exact⟨none,0,hn⟩
 ·exact⟨_,cap,hv⟩
theorem bz{w:World}{B B' e size n:Nat}{v:Value}{xs:List Value}(h:w.ownsRow B e size v n xs)(hb:B'≤B):w.ownsRow B' e size v n xs:=by
 refine⟨h.1,?_⟩
 rcases h.2 with hn|⟨g,cap,cur,hv,hg,hh,r⟩
 ·exact Or.inl hn
 ·exact Or.inr ⟨g,cap,cur,hv,Nat.le_trans hb hg,hh,r⟩
abbrev ak(b:Nat):Value:=.pointer (some ⟨b,0,none⟩)
def dW(bs:List Nat):List Value:=bs.map ak
theorem ky(bs:List Nat)(b:Nat):dW (bs++[b])=dW bs++[ak b]:=by simp[dW]
def cA(w:World)(P:Nat→Prop)(e size:Nat)(v:Value)(n:Nat)(xs:List Value):Prop:=w.ownsRow 0 e size v n xs∧∀k,v.ownBlock=some k→P k
theorem cA.move{w w':World}{P P':Nat→Prop}{e size n:Nat}{v:Value}{xs:List Value}(hm:∀b,P b→P' b∧w'.heap[b]?=w.heap[b]?)(h:cA w P e size v n xs):cA w' P' e size v n xs:=by
 obtain⟨h1,h2⟩:=h
 refine⟨⟨h1.1,?_⟩,fun k hk=>(hm k (h2 k hk)).1⟩
 rcases h1.2 with hn|⟨g,cap,cur,hv,hg,hh,r⟩
 ·exact Or.inl hn
 ·exact Or.inr ⟨g,cap,cur,hv,hg,by rw[(hm g (h2 g (by rw[hv];rfl))).2];exact hh,r⟩
theorem pm{P:Program}{w w':World}{v v':Value}(base:Nat)(t ty e:TypeId)(i:TypeInfo)(z:Value)(ht:P.underlying t=some (.slice e))(hi:P.info? e=some i)(hz:i.zero=some z)
  (n:Nat) (xs:List Value) (hown:w.ownsRow base e i.size v n xs) (a:Addr) (m c:Nat) (news:List Value) (hl:news.length=m*i.size) (hnews:∀j u,news[j]?=some u→w.cell? (a.add j)=some u) (h1:∀u∈news,u.oneCell'=true)
  (hm:0< m) (h63:n+m≤maxLen) (hbytes:(n+m)*i.bytes≤140737488355328) (hr:(Builtin.append_ #[t,t] ty #[v,.slice (some a) m c]).run P w=.ok v' w'):
  v'.ownBlock=v.ownBlock∨v'.ownBlock=some w.heap.size:=by
 have hsm:n+m≤9223372036854775807:=by simp only[maxLen]at h63;omega
 rcases hown.2 with⟨rfl,rfl⟩|⟨g,cap,cur,rfl,hbg,hg,hnc,hcm,hcs,htake⟩
 ·have h2:=run_append_nil (P:=P) w t ty e i z ht hi hz a m c news hl hnews (by omega) (by omega) (by have hb:=hbytes;simp only[Nat.zero_add]at hb;omega)
  rw[h2]at hr;cases hr;exact Or.inr rfl
 ·by_cases hroom:n+m≤cap
  ·have h2:=run_append_room (P:=P) w t ty e i ht hi g n cap cur hg a m c news hl hnews h1 hroom (by rw[hl,hcs,←Nat.add_mul];exact Nat.mul_le_mul_right _ hroom)
   rw[h2]at hr;cases hr;exact Or.inl rfl
  ·have h2:=run_append_grow (P:=P) w t ty e i z ht hi hz ⟨g,0,none⟩ n cap xs hown.1 (hown.cells (g:=g) rfl) a m c news hl hnews (by omega) (by omega) (growslice_fits (by omega) hbytes)
   rw[h2]at hr;cases hr;exact Or.inr rfl
theorem iK{P:Program}{o:Oper}{a:Act}{w:World}{K:Act→World→Prop}{Q:Exit→Act→World→Prop}
  (s x:Operand) (t:TypeId) (ho:o.op=Op.call {callee:=Callee.builtin Builtin.append,args:=#[s,x],argTypes:=#[t,t]})
  (base:Nat) (e:TypeId) (i:TypeInfo) (z:Value) (size bytes:Nat) (ht:P.underlying t=some (.slice e)) (hi:P.info? e=some i) (hz:i.zero=some z)
  (hsize:i.size=size) (hby:i.bytes=bytes) (hzs:z.cells.size=size) (hsz:0< size)
  (v:Value) (n:Nat) (xs:List Value) (hs:a.eval s=v) (hown:w.ownsRow base e size v n xs)
  (ad:Addr) (m c:Nat) (news:List Value) (hx:a.eval x=.slice (some ad) m c) (hl:news.length=m*size) (hnews:∀j u,news[j]?=some u→w.cell? (ad.add j)=some u) (h1:∀u∈news,u.oneCell'=true)
  (hm:0< m) (h63:n+m≤maxLen) (hbytes:(n+m)*bytes≤140737488355328) (hbase:base≤w.heap.size)
  (h:∀v' w',w'.ownsRow base e size v' (n+m) (xs++news)→w.grownBy w' v.ownBlock→(v'.ownBlock=v.ownBlock∨v'.ownBlock=some w.heap.size)→K (a.put o.dst v') w'):o.wp P a w K Q:=by
 subst hsize hby
 obtain⟨v',w',hr,h2,h3,_⟩:=run_append_own (P:=P) w base t o.type e i z i.size i.bytes ht hi hz rfl rfl hzs hsz v n xs hown ad m c news hl hnews h1 h63 hbytes hbase
 have h4:=pm base t o.type e i z ht hi hz n xs hown ad m c news hl hnews h1 hm h63 hbytes hr
 unfold Oper.wp execOp
 simp only[ho,resolve,invoke,builtin,Sem.run_bind,Sem.run_pure,Result.andThen_ok,List.map_toArray,List.map_cons,List.map_nil,hs,hx,hr]
 exact h v' w' h2 h3 h4
theorem aA{P:Program}{ops:Array Oper}{o:Oper}{a:Act}{w:World}{K:Act→World→Prop}{Q:Exit→Act→World→Prop}{E:Prop}
  (hg:o.guard=none) (s x:Operand) (t:TypeId) (ho:o.op=Op.call {callee:=Callee.builtin Builtin.append,args:=#[s,x],argTypes:=#[t,t]})
  (base:Nat) (e:TypeId) (i:TypeInfo) (z:Value) (size bytes:Nat) (ht:P.underlying t=some (.slice e)) (hi:P.info? e=some i) (hz:i.zero=some z)
  (hsize:i.size=size) (hby:i.bytes=bytes) (hzs:z.cells.size=size) (hsz:0< size)
  (v:Value) (n:Nat) (xs:List Value) (hs:a.eval s=v) (hown:w.ownsRow base e size v n xs)
  (ad:Addr) (m c:Nat) (news:List Value) (hx:a.eval x=.slice (some ad) m c) (hl:news.length=m*size) (hnews:∀j u,news[j]?=some u→w.cell? (ad.add j)=some u) (h1:∀u∈news,u.oneCell'=true)
  (hm:0< m) (h63:n+m≤maxLen) (hbytes:(n+m)*bytes≤140737488355328) (hbase:base≤w.heap.size)
  (h:∀v' w',w'.ownsRow base e size v' (n+m) (xs++news)→w.grownBy w' v.ownBlock→(v'.ownBlock=v.ownBlock∨v'.ownBlock=some w.heap.size)→K (a.put o.dst v') w'):
  if Region.wanted o (yielded ops a.tmps)=true then Oper.wp P o a w K Q else E:=by
 have hw:Region.wanted o (yielded ops a.tmps)=true:=by simp[Region.wanted,hg]
 rw[if_pos hw]
 exact iK s x t ho base e i z size bytes ht hi hz hsize hby hzs hsz v n xs hs hown ad m c news hx hl hnews h1 hm h63 hbytes hbase h
theorem aq{P:Program}{w:World}{ops:Array Oper}{rest:List Oper}{o:Oper}{a:Act}{Q:Exit→Act→World→Prop}(hgd:o.guard=none)
  (s x:Operand) (t:TypeId) (ho:o.op=Op.call {callee:=Callee.builtin Builtin.append,args:=#[s,x],argTypes:=#[t,t]})
  (base:Nat) (e:TypeId) (i:TypeInfo) (z:Value) (size bytes:Nat) (ht:P.underlying t=some (.slice e)) (hi:P.info? e=some i) (hz:i.zero=some z)
  (hsize:i.size=size) (hby:i.bytes=bytes) (hzs:z.cells.size=size) (hsz:0< size)
  (v:Value) (n:Nat) (xs:List Value) (hs:a.eval s=v) (hown:w.ownsRow base e size v n xs)
  (ad:Addr) (m c:Nat) (news:List Value) (hx:a.eval x=.slice (some ad) m c) (hl:news.length=m*size) (hnews:∀j u,news[j]?=some u→w.cell? (ad.add j)=some u) (h1:∀u∈news,u.oneCell'=true)
  (hm:0< m) (h63:n+m≤maxLen) (hbytes:(n+m)*bytes≤140737488355328) (hbase:base≤w.heap.size)
  (h:∀v' w',w'.ownsRow base e size v' (n+m) (xs++news)→w.grownBy w' v.ownBlock→(v'.ownBlock=v.ownBlock∨v'.ownBlock=some w.heap.size)→wpList P ops Q rest (a.put o.dst v') w'):wpList P ops Q (o::rest) a w:=
 wpList_plain hgd fun _ hK=>iK s x t ho base e i z size bytes ht hi hz hsize hby hzs hsz v n xs hs hown ad m c news hx hl hnews h1 hm h63 hbytes hbase fun v' w' h2 h3 h4=>hK _ _ (h v' w' h2 h3 h4)
theorem ae.drew'{S:Nat→Prop}{a b:World}(h:ae S a b):ae S a b.drew:=⟨h.os,h.tape,h.output,h.size,h.block⟩
theorem cA.none(w:World)(P:Nat→Prop)(e size:Nat):cA w P e size (.slice none 0 0) 0 []:=⟨World.ownsRow_nil _ _ _ _,fun k h=>by cases h⟩
section
variable {w:World} {b k:Nat} {t:aI} {sa sb:Value}
end
theorem an.below2{w w':World}{B n:Nat}{A:Array Value}(h:an w B A)(k:Below n w w')(hn:B< n):an w' B A:=
 ⟨fun j=>by rw[k.cell (p:=⟨B,j,none⟩) hn];exact h.cell j,fun j=>by rw[k.frozen (p:=⟨B,j,none⟩) hn];exact h.fz j,Nat.lt_of_lt_of_le h.lt k.size⟩
end
section
section
open Go.RowKit
theorem sA{G:Nat}{fn:Func}{c:Code}(hf:Tryz.prog.funcs[G]?=some fn)(hb:fn.body=some c)(hn:(fn.name== "runtime.NumGoroutine")=false)(args:Array Value)(w:World):(callFunc G args).run Tryz.prog w=.ok (.enter G args) w:=by
 have:=beq_eq_false_iff_ne.1 hn
 simp[callFunc,go_sem,hf,hb,this]
end
section
open Go.RowKit
theorem jR{w:World}{B e size:Nat}(A:Array Value)(xs:List Value)(hs:xs.length=1*size)(hx:A.toList=xs)(hB:B≤w.heap.size):(w.alloc (.cells A e)).ownsRow B e size (.slice (some ⟨w.heap.size,0,none⟩) 1 1) 1 xs:=by
 refine⟨hs,Or.inr ⟨w.heap.size,1,A,rfl,hB,?_,Nat.le_refl _,by decide,?_,?_⟩⟩
 ·show(w.heap.push (.cells A e (0,0)))[w.heap.size]?=_
  exact Array.getElem?_push_size
 ·rw[←hs,←hx];simp
 ·rw[←hs,hx,List.take_length]
end
section
open Go.RowKit
structure Ph where
 at_:Nat:=0
 place:Nat:=0
 kind:Nat:=0
 lt:aj:=[]
 la:Nat:=0
 ln:Nat:=0
 op:Nat:=0
 side:Nat:=0
 wa:Nat:=0
 nt:aj:=[]
 na:Nat:=0
 nn:Nat:=0
def aK(p:Ph)(sr sb:Value):Array Value:=#[.int .i64 p.at_,.int .i64 p.place,.int .i64 p.kind,.string ⟨p.lt.toArray⟩,.int .i64 p.la,.int .i64 p.ln,.int .i64 p.op,.int .i64 p.side,.int .i64 p.wa,.string ⟨p.nt.toArray⟩,.int .i64 p.na,.int .i64 p.nn,sr,sb]
end
section
open Go.RowKit
structure Pa where
 text:aj
 at_:Nat
 num:Nat
 n:Nat
def vH(a:Pa):List Value:=[.string ⟨a.text.toArray⟩,.int .i64 a.at_,.int .i64 a.num,.int .i64 a.n]
def et(l:List Pa):List Value:=l.flatMap vH
end
section
open Go.RowKit
abbrev Own(w w':World)(bs:Nat):Nat→Prop:=fun b=>b=bs∨(w.heap.size≤b∧b< w'.heap.size)
end
section
open Go.RowKit Go.Maps
theorem heap_setCell{w:World}{b:Nat}{cur:Array Value}{e:TypeId}{fz:Nat×Nat}(h:w.heap[b]?=some (.cells cur e fz))(j:Nat)(v:Value):(w.setCell ⟨b,j,none⟩ v).heap[b]?=some (.cells (cur.setIfInBounds j v) e fz):=by
 unfold World.setCell
 simp[Array.getElem?_modify,h]
end
section
open Go.RowKit Go.Maps
theorem jO(l:List Pa):(et l).length=l.length*4:=by
 induction l with
 |nil=>rfl
 |cons a l ih=>simp only[et,List.flatMap_cons,List.length_append,List.length_cons]at ih⊢;rw[ih];simp[vH];omega
theorem iN(l m:List Pa):et (l++m)=et l++et m:=by simp[et]
theorem tm(r1 r2:List Pa)(a:Pa)(j:Nat)(hj:j< 4):(et (r1++a::r2))[r1.length*4+j]?=(vH a)[j]?:=by
 rw[iN,List.getElem?_append_right (by rw[jO];omega),jO]
 have:r1.length*4+j-r1.length*4=j:=by omega
 rw[this]
 show(vH a++et r2)[j]?=_
 rw[List.getElem?_append_left (by simp[vH];omega)]
end
section
open Go.RowKit Go.Maps
def putF(f:aj→Option (Nat×Nat))(s:aj)(x:Nat×Nat):aj→Option (Nat×Nat):=fun t=>if t=s then some x else f t
end
section
open Go.RowKit Go.Maps
theorem aG{w:World}{B e size n:Nat}{v:Value}{xs:List Value}(h:w.ownsRow B e size v n xs)(hn:n≠0):∃g c,v=.slice (some ⟨g,0,none⟩) n c:=by
 rcases h.2 with⟨_,h0⟩|⟨g,cap,cur,hv,_⟩
 ·exact absurd h0 hn
 ·exact⟨g,cap,hv⟩
end
end
section
open Go.Shelf Go.RowKit
def Tryz.lays137_ren:Go.Shelf.Ren:=⟨fun|137=>125|217=>180|266=>203|n=>n,fun|9=>9|5=>5|3=>3|n=>n,fun|n=>n⟩
theorem Tryz.lays137:Go.Proofs.Lays.n137 Tryz.prog Tryz.lays137_ren:={
 mixed:=by kernel_rfl
 f137:=Tryz.func125.trans (congrArg some (by kernel_rfl))
 f217:=Tryz.func180.trans (congrArg some (by kernel_rfl))
 f266:=Tryz.func203.trans (congrArg some (by kernel_rfl))
 t3:=Tryz.underlying3
 a3:=Tryz.isAgg3
 z3:=Tryz.sizeOf3
 v3:=Tryz.zeroValue3
 t5:=Tryz.underlying5
 a5:=Tryz.isAgg5
 z5:=Tryz.sizeOf5
 v5:=Tryz.zeroValue5
 t9:=Tryz.underlying9
 a9:=Tryz.isAgg9
 z9:=Tryz.sizeOf9
 v9:=Tryz.zeroValue9}
theorem Tryz.strings_IndexByte(s:ByteArray)(c:Int)(w:World):
  Calls Tryz.prog 125 #[.string s,.int .u8 c] w fun e w'=>e=.returned (.int .i64 (Lib.indexByte s.data.toList c.toNat.toUInt8))∧w'=w:=Any.strings_IndexByte Tryz.lays137 s c w
def Tryz.lays172_ren:Go.Shelf.Ren:=⟨fun|172=>181|244=>204|245=>205|247=>212|279=>213|280=>214|281=>215|282=>216|287=>219|316=>179|171=>221|205=>220|321=>222|322=>223|243=>224|246=>225|283=>226|284=>227|285=>228|286=>229|129=>231|317=>230|318=>232|319=>233|320=>234|337=>235|338=>169|n=>n,fun|9=>9|3=>3|75=>61|76=>320|4=>4|5=>5|167=>342|37=>334|0=>0|85=>343|2=>2|168=>345|53=>143|175=>349|46=>332|210=>352|127=>335|145=>358|143=>356|21=>21|171=>360|173=>362|212=>366|51=>367|20=>20|213=>368|232=>372|233=>331|80=>50|n=>n,fun|15=>2|16=>3|17=>4|18=>5|19=>0|n=>n⟩
theorem Tryz.lays172:Go.Proofs.Lays.n172 Tryz.prog Tryz.lays172_ren:={
 mixed:=by kernel_rfl
 f129:=Tryz.func231.trans (congrArg some (by kernel_rfl))
 f171:=Tryz.func221.trans (congrArg some (by kernel_rfl))
 f172:=Tryz.func181.trans (congrArg some (by kernel_rfl))
 f205:=Tryz.func220.trans (congrArg some (by kernel_rfl))
 f243:=Tryz.func224.trans (congrArg some (by kernel_rfl))
 f244:=Tryz.func204.trans (congrArg some (by kernel_rfl))
 f245:=Tryz.func205.trans (congrArg some (by kernel_rfl))
 f246:=Tryz.func225.trans (congrArg some (by kernel_rfl))
 f247:=Tryz.func212.trans (congrArg some (by kernel_rfl))
 f279:=Tryz.func213.trans (congrArg some (by kernel_rfl))
 f280:=Tryz.func214.trans (congrArg some (by kernel_rfl))
 f281:=Tryz.func215.trans (congrArg some (by kernel_rfl))
 f282:=Tryz.func216.trans (congrArg some (by kernel_rfl))
 f283:=Tryz.func226.trans (congrArg some (by kernel_rfl))
 f284:=Tryz.func227.trans (congrArg some (by kernel_rfl))
 f285:=Tryz.func228.trans (congrArg some (by kernel_rfl))
 f286:=Tryz.func229.trans (congrArg some (by kernel_rfl))
 f287:=Tryz.func219.trans (congrArg some (by kernel_rfl))
 f316:=Tryz.func179.trans (congrArg some (by kernel_rfl))
 f317:=Tryz.func230.trans (congrArg some (by kernel_rfl))
 f318:=Tryz.func232.trans (congrArg some (by kernel_rfl))
 f319:=Tryz.func233.trans (congrArg some (by kernel_rfl))
 f320:=Tryz.func234.trans (congrArg some (by kernel_rfl))
 f321:=Tryz.func222.trans (congrArg some (by kernel_rfl))
 f322:=Tryz.func223.trans (congrArg some (by kernel_rfl))
 f337:=Tryz.func235.trans (congrArg some (by kernel_rfl))
 f338:=Tryz.func169.trans (congrArg some (by kernel_rfl))
 t0:=Tryz.underlying0
 a0:=Tryz.isAgg0
 z0:=Tryz.sizeOf0
 v0:=Tryz.zeroValue0
 t2:=Tryz.underlying2
 a2:=Tryz.isAgg2
 z2:=Tryz.sizeOf2
 v2:=Tryz.zeroValue2
 t3:=Tryz.underlying3
 a3:=Tryz.isAgg3
 z3:=Tryz.sizeOf3
 v3:=Tryz.zeroValue3
 t4:=Tryz.underlying4
 a4:=Tryz.isAgg4
 z4:=Tryz.sizeOf4
 v4:=Tryz.zeroValue4
 t5:=Tryz.underlying5
 a5:=Tryz.isAgg5
 z5:=Tryz.sizeOf5
 v5:=Tryz.zeroValue5
 t9:=Tryz.underlying9
 a9:=Tryz.isAgg9
 z9:=Tryz.sizeOf9
 v9:=Tryz.zeroValue9
 t20:=Tryz.underlying20
 a20:=Tryz.isAgg20
 z20:=Tryz.sizeOf20
 v20:=Tryz.zeroValue20
 t21:=Tryz.underlying21
 a21:=Tryz.isAgg21
 z21:=Tryz.sizeOf21
 v21:=Tryz.zeroValue21
 t37:=Tryz.underlying334
 a37:=Tryz.isAgg334
 z37:=Tryz.sizeOf334
 v37:=Tryz.zeroValue334
 t46:=Tryz.underlying332
 a46:=Tryz.isAgg332
 z46:=Tryz.sizeOf332
 v46:=Tryz.zeroValue332
 t51:=Tryz.underlying367
 a51:=Tryz.isAgg367
 z51:=Tryz.sizeOf367
 v51:=Tryz.zeroValue367
 t53:=Tryz.underlying143
 a53:=Tryz.isAgg143
 z53:=Tryz.sizeOf143
 v53:=Tryz.zeroValue143
 t75:=Tryz.underlying61
 a75:=Tryz.isAgg61
 z75:=Tryz.sizeOf61
 v75:=Tryz.zeroValue61
 t76:=Tryz.underlying320
 a76:=Tryz.isAgg320
 z76:=Tryz.sizeOf320
 v76:=Tryz.zeroValue320
 t85:=Tryz.underlying343
 a85:=Tryz.isAgg343
 z85:=Tryz.sizeOf343
 v85:=Tryz.zeroValue343
 t127:=Tryz.underlying335
 a127:=Tryz.isAgg335
 z127:=Tryz.sizeOf335
 v127:=Tryz.zeroValue335
 t143:=Tryz.underlying356
 a143:=Tryz.isAgg356
 z143:=Tryz.sizeOf356
 v143:=Tryz.zeroValue356
 t145:=Tryz.underlying358
 a145:=Tryz.isAgg358
 z145:=Tryz.sizeOf358
 v145:=Tryz.zeroValue358
 t167:=Tryz.underlying342
 a167:=Tryz.isAgg342
 z167:=Tryz.sizeOf342
 v167:=Tryz.zeroValue342
 t168:=Tryz.underlying345
 a168:=Tryz.isAgg345
 z168:=Tryz.sizeOf345
 v168:=Tryz.zeroValue345
 t171:=Tryz.underlying360
 a171:=Tryz.isAgg360
 z171:=Tryz.sizeOf360
 v171:=Tryz.zeroValue360
 t173:=Tryz.underlying362
 a173:=Tryz.isAgg362
 z173:=Tryz.sizeOf362
 v173:=Tryz.zeroValue362
 t175:=Tryz.underlying349
 a175:=Tryz.isAgg349
 z175:=Tryz.sizeOf349
 v175:=Tryz.zeroValue349
 t210:=Tryz.underlying352
 a210:=Tryz.isAgg352
 z210:=Tryz.sizeOf352
 v210:=Tryz.zeroValue352
 t212:=Tryz.underlying366
 a212:=Tryz.isAgg366
 z212:=Tryz.sizeOf366
 v212:=Tryz.zeroValue366
 t213:=Tryz.underlying368
 a213:=Tryz.isAgg368
 z213:=Tryz.sizeOf368
 t232:=Tryz.underlying372
 a232:=Tryz.isAgg372
 z232:=Tryz.sizeOf372
 v232:=Tryz.zeroValue372
 t233:=Tryz.underlying331
 a233:=Tryz.isAgg331
 z233:=Tryz.sizeOf331
 v233:=Tryz.zeroValue331
 g15:=by kernel_rfl
 g16:=by kernel_rfl
 g17:=by kernel_rfl
 g18:=by kernel_rfl
 g19:=by kernel_rfl}
theorem Tryz.strconv_Atoi(s:ByteArray)(n:Int)(hl:s.size≤18)(h:Lib.atoi s.data.toList=some n)(w:World):
  Calls Tryz.prog 181 #[.string s] w fun e w'=>e=.returned (.tuple #[.int .i64 n,.nilIface])∧∃t,w'=Lib.bytesWorld w 5 t:=Any.strconv_Atoi Tryz.lays172 s n hl h w
def Tryz.laysM316_ren:Go.Shelf.Ren:=⟨fun|316=>179|n=>n,fun|9=>9|3=>3|4=>4|37=>334|0=>0|127=>335|5=>5|n=>n,fun|n=>n⟩
theorem Tryz.laysM316:Go.Proofs.LaysM.n316 Tryz.prog Tryz.laysM316_ren:={
 mixed:=by kernel_rfl
 f316:=Tryz.func179.trans (congrArg some (by kernel_rfl))
 t0:=Tryz.underlying0
 a0:=Tryz.isAgg0
 z0:=Tryz.sizeOf0
 v0:=Tryz.zeroValue0
 t3:=Tryz.underlying3
 a3:=Tryz.isAgg3
 z3:=Tryz.sizeOf3
 v3:=Tryz.zeroValue3
 t4:=Tryz.underlying4
 a4:=Tryz.isAgg4
 z4:=Tryz.sizeOf4
 v4:=Tryz.zeroValue4
 t9:=Tryz.underlying9
 a9:=Tryz.isAgg9
 z9:=Tryz.sizeOf9
 v9:=Tryz.zeroValue9
 t37:=Tryz.underlying334
 a37:=Tryz.isAgg334
 z37:=Tryz.sizeOf334
 v37:=Tryz.zeroValue334
 t127:=Tryz.underlying335
 a127:=Tryz.isAgg335
 z127:=Tryz.sizeOf335
 v127:=Tryz.zeroValue335
 t5:=Tryz.underlying5
 a5:=Tryz.isAgg5
 z5:=Tryz.sizeOf5
 v5:=Tryz.zeroValue5
 i0:=by kernel_rfl
 i3:=by kernel_rfl
 i4:=by kernel_rfl
 i5:=by kernel_rfl
 i9:=by kernel_rfl
 i37:=by kernel_rfl
 i127:=by kernel_rfl}
theorem Tryz.stringslite_Clone(s:ByteArray)(w:World)(hlim:s.size≤281474976710656):
  Calls Tryz.prog 179 #[.string s] w fun e w'=>e=.returned (.string s)∧Below w.heap.size w w':=Any.stringslite_Clone Tryz.laysM316 s w hlim
def Tryz.lays99_ren:Go.Shelf.Ren:=⟨fun|99=>77|206=>124|n=>n,fun|9=>9|4=>4|3=>3|n=>n,fun|n=>n⟩
theorem Tryz.lays99:Go.Proofs.Lays.n99 Tryz.prog Tryz.lays99_ren:={
 mixed:=by kernel_rfl
 f99:=Tryz.func77.trans (congrArg some (by kernel_rfl))
 f206:=Tryz.func124.trans (congrArg some (by kernel_rfl))
 t3:=Tryz.underlying3
 a3:=Tryz.isAgg3
 z3:=Tryz.sizeOf3
 v3:=Tryz.zeroValue3
 t4:=Tryz.underlying4
 a4:=Tryz.isAgg4
 z4:=Tryz.sizeOf4
 v4:=Tryz.zeroValue4
 t9:=Tryz.underlying9
 a9:=Tryz.isAgg9
 z9:=Tryz.sizeOf9
 v9:=Tryz.zeroValue9}
open Go.RowKit Go.Lib in
theorem Tryz.strings_HasPrefix(s p:ByteArray)(w:World):
  Calls Tryz.prog 77 #[.string s,.string p] w fun e w'=>e=.returned (.bool (Lib.hasPrefix s.data.toList p.data.toList))∧w'=w:=Any.strings_HasPrefix Tryz.lays99 s p w
end
end Go.Proofs.YtmdaflepdaiabaaGreatDoor
