import Derived.RangeFuncNested
import Derived.RangeFuncBound
import Derived.RangeFuncCalls
import Derived.RangeFuncLeaves
import Derived.RangeFuncBox
import Derived.Shelf.Abstract
import Derived.Shelf.RegionOpen
import Derived.WalkKit
import Derived.OwnWalkIn
import Derived.TacticsInMore
import Derived.LoopNIn
import Derived.LoopIn
import Derived.Deep.QuietTactic
import Derived.BigQuiet
import Derived.Deep.LoopGhost
import Derived.Test.YtajfbbldaiaolaaGreatDoorQ07
set_option linter.unusedSimpArgs false
set_option linter.unusedVariables false
set_option maxRecDepth 100000
set_option maxHeartbeats 4000000
namespace Go.Proofs.YtajfbbldaiaolaaGreatDoor
open Go.RowKit Go.Shelf
variable {A B C v y z:Value}{D F R a b c d f i k n o r s:Nat}{L l:List Nat}{W w:World}{x:Rp}
theorem zU(A:List Nat)(l:List Fs)(b:Nat)(s:Fs)(h:A.length=l.length):kn ((A++[b]).zip (l++[s]))=kn (A.zip l)++ui (b,s):=by
 rw[List.zip_append h]
 simp[kn]
theorem CA(l:List (Nat×Fs)):∀u∈kn l,u.oneCell'=true:=by
 intro u A
 simp only[kn,List.mem_flatMap,ui]at A
 obtain⟨a,_,h⟩:=A
 simp at h
 rcases h with rfl|rfl|rfl|rfl<;>rfl
def FJ(W:World)(base b:Nat)(A:Array Value):Prop:=(b< base/\aM W b A)\/W.heap[b]?=some (.cells A 219 (0,0))
theorem FJ.blk{A:Array Value}(h:FJ W a b A):aM W b A:=by
 rcases h with h|h
 ·exact h.2
 ·exact aA h
theorem FJ.ty{T:TypeId->Prop}{W':World}{A:Array Value}(h:FJ W a b A)(k:eH T a W W')(B:¬T 219):FJ W' a b A:=by
 rcases h with h|h
 ·exact .inl ⟨h.1,h.2.below2 k.bel h.1⟩
 ·exact .inr (k.typ _ _ _ _ B h)
structure jy(W:World)(base bR:Nat)(x:Rp)(bv sv tv rv lv:Value)(bs:List Nat):Prop where
 hd:W.heap[bR]?=some (.cells #[.int .i64 x.main,.int .i64 x.mutexes,bv,sv,tv,.int .u64 x.spots,.int .u64 x.twice,rv,lv,.int .i64 x.ends] 288 (0,0))
 bb:base<=bR
 b:W.ownsRow base 175 1 bv x.begins.length (dG x.begins)
 bl:bs.length=x.stmts.length
 s:W.ownsRow base 253 4 sv x.stmts.length (kn (bs.zip x.stmts))
 st:∀(k b:Nat) (s:Fs),bs[k]?=some b->x.stmts[k]?=some s->∃sr sb,FJ W base b (bK s.p sr sb)/\W.ownsRow 0 258 4 sr s.r.length (eF s.r)
 t:W.ownsRow base 175 1 tv x.starts.length (dG x.starts)
 r:W.ownsRow base 337 1 rv x.runs.length (aX x.runs)
 l:W.ownsRow base 231 1 lv x.below.length (aX x.below)
 ne:∀i,bv.ownBlock=some i->tv.ownBlock≠some i
theorem jy.at{tv:Value}(h:jy W a c x y z tv A B L):cA W c x:=by
 refine⟨y,z,tv,A,B,aA h.hd,dP h.b 0 (Nat.zero_le _),⟨L,h.bl,dP h.s 0 (Nat.zero_le _),fun k b s D C=>?_⟩,dP h.t 0 (Nat.zero_le _),dP h.r 0 (Nat.zero_le _),dP h.l 0 (Nat.zero_le _)⟩
 obtain⟨sr,sb,F,E⟩:=h.st k b s D C
 exact⟨sr,sb,F.blk,E⟩
theorem jy.base_le{tv:Value}(h:jy W a b x y z tv A B l):a<=W.heap.size:=by
 have:=(gl h.hd)
 have:=h.bb
 omega
theorem jy.sts{T:TypeId->Prop}{W':World}{tv:Value}(h:jy W a c x y z tv A B l)(k:eH T a W W')(F:¬T 219)(E:¬T 258):∀(k b:Nat) (s:Fs),l[k]?=some b->x.stmts[k]?=some s->∃sr sb,FJ W' a b (bK s.p sr sb)/\W'.ownsRow 0 258 4 sr s.r.length (eF s.r):=fun j b s D C=>by
 obtain⟨sr,sb,H,G⟩:=h.st j b s D C
 exact⟨sr,sb,H.ty k F,k.row G E⟩
theorem jy.keep{W':World}{tv:Value}(h:jy W a c x y z tv B C L)(k:Bw W W'):jy W' a c x y z tv B C L:=by
 have A:eH (fun _=>False) a W W':=eH.of_below k h.base_le
 exact⟨A.typ _ _ _ _ (fun e=>e) h.hd,h.bb,A.row h.b (fun e=>e),h.bl,A.row h.s (fun e=>e),h.sts A (fun e=>e) (fun e=>e),A.row h.t (fun e=>e),A.row h.r (fun e=>e),A.row h.l (fun e=>e),h.ne⟩
theorem jy.wr{tv:Value}(h:jy W a b x y z tv B C l)(j:Nat)(u:Value):eH (fun t=>t=288) a W (W.setCell (Ad b j) u):=eH.set h.hd rfl h.bb
theorem jy.begin{D E:Value}(h:jy W a c x y z (.slice none 0 0) D E L)(k:eH (fun t=>t=175) a W w)(J:w.ownsRow a 175 1 C (x.begins.length+1) (dG x.begins++[aB b])):
  jy (w.setCell ⟨c,2,none⟩ C) a c {x with begins:=x.begins++[b]} C z (.slice none 0 0) D E L:=by
 have B:=k.typ _ _ _ _ (by decide) h.hd
 have A:eH (fun t=>t=288) a w (w.setCell (Ad c 2) C):=eH.set B rfl h.bb
 refine⟨heap_set B,h.bb,?_,h.bl,A.row (k.row h.s (by decide)) (by decide),?_,?_,A.row (k.row h.r (by decide)) (by decide),A.row (k.row h.l (by decide)) (by decide),fun i _ e=>by cases e⟩
 ·have Q:dG (x.begins++[b])=dG x.begins++[aB b]:=by simp[dG]
  have P:(x.begins++[b]).length=x.begins.length+1:=by simp
  show World.ownsRow _ _ _ _ _ (x.begins++[b]).length (dG (x.begins++[b]))
  rw[Q,P]
  exact A.row J (by decide)
 ·intro j b s M H
  obtain⟨sr,sb,O,N⟩:=h.sts k (by decide) (by decide) j b s M H
  exact⟨sr,sb,O.ty A (by decide),A.row N (by decide)⟩
 ·have F:=h.t
  rcases F.2 with⟨_,K⟩|⟨g,cap,R,G,_⟩
  ·exact⟨F.1,.inl ⟨rfl,K⟩⟩
  ·cases G
theorem jy.stmt{s:Fs}{tv G H E sr sb:Value}(h:jy W a c x y z tv G H L)(k:eH (fun t=>t=253) a W w)(O:w.ownsRow a 253 4 E (x.stmts.length+1) (kn (L.zip x.stmts)++ui (b,s)))
  (M:FJ W a b (bK s.p sr sb)) (N:W.ownsRow 0 258 4 sr s.r.length (eF s.r)):
  jy (w.setCell ⟨c,3,none⟩ E) a c {x with stmts:=x.stmts++[s]} y E tv G H (L++[b]):=by
 have D:=k.typ _ _ _ _ (by decide) h.hd
 have B:eH (fun t=>t=288) a w (w.setCell (Ad c 3) E):=eH.set D rfl h.bb
 refine⟨heap_set D,h.bb,B.row (k.row h.b (by decide)) (by decide),by simp[h.bl],?_,?_,B.row (k.row h.t (by decide)) (by decide),B.row (k.row h.r (by decide)) (by decide),B.row (k.row h.l (by decide)) (by decide),h.ne⟩
 ·have R:(x.stmts++[s]).length=x.stmts.length+1:=by simp
  show World.ownsRow _ _ _ _ _ (x.stmts++[s]).length (kn ((L++[b]).zip (x.stmts++[s])))
  rw[zU _ _ _ _ h.bl,R]
  exact B.row O (by decide)
 ·intro j S K C A
  by_cases J:j< L.length
  ·rw[List.getElem?_append_left J]at C
   rw[List.getElem?_append_left (by rw[<-h.bl];exact J)]at A
   obtain⟨sr,sb,Q,P⟩:=h.sts k (by decide) (by decide) j S K C A
   exact⟨sr,sb,Q.ty B (by decide),B.row P (by decide)⟩
  ·rw[List.getElem?_append_right (by omega)]at C
   rw[List.getElem?_append_right (by rw[<-h.bl];omega),<-h.bl]at A
   have F:j-L.length=0:=by
    rcases Nat.eq_zero_or_pos (j-L.length)with e|e
    ·exact e
    ·rw[List.getElem?_eq_none (by simp;omega)]at C;cases C
   rw[F]at C A
   cases C
   cases A
   exact⟨sr,sb,(M.ty k (by decide)).ty B (by decide),B.row (k.row N (by decide)) (by decide)⟩
theorem jy.start{v:World}{tv F G:Value}(h:jy W a c x y z tv F G L)(J:Bw W w)(hg:w.grownBy v tv.ownBlock)(K:C.ownBlock=tv.ownBlock\/C.ownBlock=some w.heap.size)(N:v.ownsRow a 175 1 C (x.starts.length+1) (dG x.starts++[aB n])):
  jy (v.setCell ⟨c,4,none⟩ C) a c {x with starts:=x.starts++[n]} y z C F G L:=by
 have A:=h.keep J
 have k:eH (fun t=>t=175) a w v:=eH.grown A.t hg rfl A.base_le
 have D:=k.typ _ _ _ _ (by decide) A.hd
 have B:eH (fun t=>t=288) a v (v.setCell (Ad c 4) C):=eH.set D rfl h.bb
 have E:v.ownsRow a 175 1 y x.begins.length (dG x.begins):=by
  refine A.b.kept hg ?_
  rcases A.b.2 with⟨e,_⟩|⟨g,cap,T,e,_⟩
  ·exact .inl (by rw[e];rfl)
  ·exact .inr fun e'=>h.ne g (by rw[e];rfl) (by rw[<-e',e];rfl)
 refine⟨heap_set D,h.bb,B.row E (by decide),h.bl,B.row (k.row A.s (by decide)) (by decide),?_,?_,B.row (k.row A.r (by decide)) (by decide),B.row (k.row A.l (by decide)) (by decide),fun i H=>?_⟩
 ·intro j b s O M
  obtain⟨sr,sb,Q,P⟩:=A.sts k (by decide) (by decide) j b s O M
  exact⟨sr,sb,Q.ty B (by decide),B.row P (by decide)⟩
 ·have S:dG (x.starts++[n])=dG x.starts++[aB n]:=by simp[dG]
  have R:(x.starts++[n]).length=x.starts.length+1:=by simp
  show World.ownsRow _ _ _ _ _ (x.starts++[n]).length (dG (x.starts++[n]))
  rw[S,R]
  exact B.row N (by decide)
 ·rcases K with e|e
  ·rw[e];exact h.ne i H
  ·rw[e]
   intro e'
   cases e'
   have:=(A.b.lt _ H).2
   omega
theorem jy.spots{tv:Value}(h:jy W a c x y z tv B C L):jy (W.setCell ⟨c,5,none⟩ (.int .u64 (n:Nat))) a c {x with spots:=n} y z tv B C L:=by
 have A:=h.wr 5 (aH (n:Nat))
 exact⟨heap_set h.hd,h.bb,A.row h.b (by decide),h.bl,A.row h.s (by decide),h.sts A (by decide) (by decide),A.row h.t (by decide),A.row h.r (by decide),A.row h.l (by decide),h.ne⟩
theorem jy.twice{tv:Value}(h:jy W a c x y z tv B C L):jy (W.setCell ⟨c,6,none⟩ (.int .u64 (n:Nat))) a c {x with twice:=n} y z tv B C L:=by
 have A:=h.wr 6 (aH (n:Nat))
 exact⟨heap_set h.hd,h.bb,A.row h.b (by decide),h.bl,A.row h.s (by decide),h.sts A (by decide) (by decide),A.row h.t (by decide),A.row h.r (by decide),A.row h.l (by decide),h.ne⟩
theorem jy.setRuns{tv:Value}(h:jy W a c x y z tv C B L)(D:W.ownsRow a 337 1 v l.length (aX l)):jy (W.setCell ⟨c,7,none⟩ v) a c {x with runs:=l} y z tv v B L:=by
 have A:=h.wr 7 v
 exact⟨heap_set h.hd,h.bb,A.row h.b (by decide),h.bl,A.row h.s (by decide),h.sts A (by decide) (by decide),A.row h.t (by decide),A.row D (by decide),A.row h.l (by decide),h.ne⟩
theorem jy.setBelow{tv:Value}(h:jy W a c x y z tv B C L)(D:W.ownsRow a 231 1 v l.length (aX l)):jy (W.setCell ⟨c,8,none⟩ v) a c {x with below:=l} y z tv B v L:=by
 have A:=h.wr 8 v
 exact⟨heap_set h.hd,h.bb,A.row h.b (by decide),h.bl,A.row h.s (by decide),h.sts A (by decide) (by decide),A.row h.t (by decide),A.row h.r (by decide),A.row D (by decide),h.ne⟩
section
attribute [local go_sem] Oper.semAt_some
theorem Tz.low{w':World}(h:Tz w)(A:0< n)(k:Below n w w'):Tz w':=fun j B=>by
 have C:=h j B
 rw[k.cell (p:=Ad 0 j) A];exact C
def Dx(a f o:Nat):Prop:=(a=212/\f=213/\o=137\/a=278/\f=279/\o=163\/a=280/\f=166/\o=218\/a=236/\f=237/\o=238\/a=242/\f=243/\o=222\/a=308/\f=309/\o=275)/\(∀x:Nat,x< ec->x≠0->∀w,Tz w->Calls Tryz.prog f #[.int .u64 x] w fun r w'=>r=.returned (.tuple #[.int .i64 (Lib.ctz 64 x),.bool true])/\w'=w)/\(∀w,Calls Tryz.prog f #[.int .u64 0] w fun r w'=>r=.returned (.tuple #[.int .i64 64,.bool false])/\w'=w)/\∀n:Nat,n< 64->∀w,Calls Tryz.prog o #[.int .i64 n] w fun r w'=>r=.returned (.int .u64 (aW n:Nat))/\w'=w
theorem tG:Dx 212 213 137:=⟨.inl ⟨rfl,rfl,rfl⟩,fun x h k w t=>zZ x h k w t,xH,fun n h w=>jK n h w⟩
theorem qn:Dx 278 279 163:=⟨.inr (.inl ⟨rfl,rfl,rfl⟩),fun x h k w t=>xG x h k w t,vy,fun n h w=>kO n h w⟩
theorem vB:Dx 280 166 218:=⟨.inr (.inr (.inl ⟨rfl,rfl,rfl⟩)),fun x h k w t=>qj x h k w t,ox,fun n h w=>uV n h w⟩
theorem yR:Dx 236 237 238:=⟨.inr (.inr (.inr (.inl ⟨rfl,rfl,rfl⟩))),fun x h k w t=>Aa x h k w t,xI,fun n h w=>te n h w⟩
theorem CH:Dx 242 243 222:=⟨.inr (.inr (.inr (.inr (.inl ⟨rfl,rfl,rfl⟩)))),fun x h k w t=>xJ x h k w t,vz,fun n h w=>pO n h w⟩
theorem oz:Dx 308 309 275:=⟨.inr (.inr (.inr (.inr (.inr (⟨rfl,rfl,rfl⟩))))),fun x h k w t=>qN x h k w t,qk,fun n h w=>fC n h w⟩
theorem LX(K:Dx a f o)(n:Nat)(hn:1<=n)(l Bn t s:Nat)(u:s< ec)(X:0< t)(J Jx:List (El s)->World->Prop)
  (y:∀A x W,J A W->A.length< 64->YieldAt Fence.wide (n-1) Tryz.prog l #[aB x.1] W fun e W'=>
   (e=.returned (.bool true)/\J (A++[x]) W'/\Below t W W')\/(e=.returned (.bool false)/\Jx (A++[x]) W'))
  (W:World) (a0:W.cell? (Ad Bn 0)=some (aH s)) (P:Tz W) (h0:J [] W):
  CallsIn Fence.wide n Tryz.prog a #[.func (.yield l) #[] #[],Pt Bn 0] W fun e W'=>(∃v,e=.returned v)/\
   ((∃p,p=yT s/\J p W')\/(∃A,A.map (·.1)<+:et s/\Jx A W')):=by
 obtain⟨K,F1,F0,O1⟩:=K
 have r1:=iK
 have HF:∀(x:Nat) (w:World),x< ec->Tz w->Hid (CallsIn Fence.wide (n-1) Tryz.prog f #[aH x] w (Ru w (.tuple #[aB (if x=0 then 64 else Lib.ctz 64 x:Nat),.bool (x !=0)]))):=fun x w H P=>by
  by_cases e:x=0
  ·subst e;exact callsIn_wide.2 (F0 w)
  ·have:=F1 x H e w P
   show CallsIn _ _ _ _ _ _ _
   rw[if_neg e,show(x !=0)=true by rw[bne_iff_ne];exact e]
   exact callsIn_wide.2 this
 obtain⟨c,Z⟩:=bM (fun x=>if x=0 then 64 else Lib.ctz 64 x:Nat->Nat)
 have G:∀(x:Nat) (w:World),x< ec->Tz w->Hid (CallsIn Fence.wide (n-1) Tryz.prog f #[aH x] w (Ru w (.tuple #[aB (c x),.bool (x !=0)]))):=by rw[Z];exact HF
 obtain⟨HC,d,HT⟩:=bY Z y P
 have m:=G s W u P
 obtain⟨j,HO⟩:=aN G (fun k h w=>callsIn_wide (n:=n-1).2 (O1 k h w))
 clear HF Z y P G F1 F0 O1
 rcases K with⟨rfl,rfl,rfl⟩|⟨rfl,rfl,rfl⟩|⟨rfl,rfl,rfl⟩|⟨rfl,rfl,rfl⟩|⟨rfl,rfl,rfl⟩|⟨rfl,rfl,rfl⟩
 all_goals
  refine callsIn_of_wp (by first|exact Tryz.func212|exact Tryz.func278|exact Tryz.func280|exact Tryz.func236|exact Tryz.func242|exact Tryz.func308) rfl trivial ?_ rfl
  simp only[Tryz.ntmps212,Tryz.ntmps278,Tryz.ntmps280,Tryz.ntmps236,Tryz.ntmps242,Tryz.ntmps308,List.size_toArray,List.length_cons,List.length_nil,Nat.reduceAdd,Nat.reduceSub,Array.replicate_succ,Array.replicate_zero,List.push_toArray,List.append_toArray,List.nil_append,List.cons_append]
  gi_wp2_with (refine⟨trivial,?_⟩;refine m.out.mono ?_;rintro e w' ⟨rfl,K⟩;subst w')
  gi_loopw [3,4,5] (fun a b ok wr=>∃(A:List (El s)) (r:Nat),a=aH r/\b=aB (c r)/\ok=.bool (r !=0)/\r< ec/\Hid (A.map (·.1)++et r=et s)/\Hid (J A wr)/\Hid (Tz wr)) (fun a _ _ _=>(intOf a).toNat)
  case atStart=>exact⟨[],s,rfl,rfl,rfl,u,rfl,h0,HT⟩
  case round=>
   obtain⟨A,r,rfl,rfl,rfl,N,V,HJ,g⟩:=hrel
   by_cases h:r=0
   ·have D:(r !=0)=false:=by simp[h]
    have HX:Hid (A=yT s):=ID (by have:=V.out;rw[h,CJ,List.append_nil]at this;exact this)
    clear h
    rw[D]
    gi_wp2
    go_end0
    exact⟨⟨_,rfl⟩,.inl ⟨A,HX.out,HJ.out⟩⟩
   ·have D:(r !=0)=true:=by simp[h]
    have B:c r=Lib.ctz 64 r:=by rw[HC.out];simp[h]
    have L:=lN h N
    rw[<-B]at L
    have H:s.testBit (c r)=true:=by
     have hm:c r∈et s:=by rw[<-V.out,tJ h N,<-B];simp
     exact(tI hm).2
    have S:Hid ((A++[(⟨c r,L.1,H⟩:El s)]).map (·.1)++et (ew r (aW (c r)))=et s):=by
     show _=_
     rw[<-V.out,tJ h N,<-B]
     simp
    have Y:A.length< 64:=by
     have h1:=congrArg List.length V.out
     have h2:=Fq s
     rw[tJ h N]at h1
     simp at h1
     omega
    have E:=wH h N
    rw[<-B]at E
    have M:=mH r (aW (c r))
    obtain⟨fn,q,T,body,hy,z⟩:=d.out A ⟨c r,L.1,H⟩ wr HJ.out Y
    dsimp only at hy
    have HR:=aG z
    clear h B z
    rw[D]
    gi_wp2
    refine HR.out.mono ?_
    rintro e W3 (⟨rfl,Q,O⟩|⟨rfl,C⟩)
    ·have R:Hid (Tz W3):=g.out.low X O
     have F:=aG Q
     have i:=j.out (ew r (aW (c r))) W3 M R.out
     clear Q O
     gi_wp2_with (first|(refine⟨trivial,?_⟩;refine(HO.out _ L.1 _).mono ?_;rintro e w' ⟨rfl,K⟩;subst w')|(refine⟨trivial,?_⟩;refine i.out.mono ?_;rintro e w' ⟨rfl,K⟩;subst w'))
     go_roundw
     case rel=>exact⟨A++[⟨c r,L.1,H⟩],_,rfl,rfl,rfl,M,S,F,R⟩
     case measure=>simp[intOf];omega
    ·have F:=aG C
     clear C
     gi_wp2
     refine bodyPost_ret (results_none rfl _ _ _) rfl ?_
     exact⟨⟨_,rfl⟩,.inr ⟨A++[⟨c r,L.1,H⟩],⟨et (ew r (aW (c r))),S.out⟩,F.out⟩⟩
end
section
attribute [local go_sem] Oper.semAt_some
theorem bO{B:Nat}{W':World}(h:Bw W W'):KeepsFrom B W W':=⟨h.size,fun k _ _ A _=>(h.block k (gl A)).trans A⟩
theorem aL{W':World}{B:Nat}{t:TypeId}(h:Boxed W B t v)(k:Bw W W'):Boxed W' B t v:=by
 have A:B< W.heap.size:=(gl h)
 exact(k.block B A).trans h
def jU(s:Nat)(p:Nat->Bool)(l:List (El s)):Nat:=l.foldl (fun a x=>if p x.1 then fV a (aW x.1)else a) 0
theorem wO(s:Nat)(p:Nat->Bool)(l:List (El s))(x:El s):jU s p (l++[x])=if p x.1 then fV (jU s p l) (aW x.1)else jU s p l:=by
 unfold jU;rw[List.foldl_append];rfl
def iG(s:Nat)(p:Nat->Bool):Nat:=(et s).foldl (fun a x=>if p x then fV a (aW x)else a) 0
theorem rA(s:Nat)(p:Nat->Bool):jU s p (yT s)=iG s p:=by
 unfold jU iG
 rw[<-dO,List.foldl_map]
theorem Bi(s:Nat)(p:Nat->Bool)(l:List (El s)):jU s p l< ec:=by
 have:∀(l:List (El s)) (a:Nat),a< ec->l.foldl (fun a x=>if p x.1 then fV a (aW x.1)else a) a< ec:=by
  intro l
  induction l with
  |nil=>intro a h;exact h
  |cons x l ih=>intro a h;rw[List.foldl_cons];apply ih;split;exact kE _ _;exact h
 exact this l 0 (by decide)
theorem At{t:Nat}(A:F=144/\a=212/\t=284\/F=210/\a=278/\t=231\/F=217/\a=280/\t=178\/F=168/\a=236/\t=351\/F=170/\a=242/\t=227\/F=299/\a=308/\t=337)(n:Nat)(s:Nat)(w:World):
  CallsIn Fence.wide n Tryz.prog F #[aH s] w fun e w'=>e=.returned (.func (.func a) #[] #[Pt w.heap.size 0])/\w'=w.alloc (.cells #[aH s] t):=by
 rcases A with⟨rfl,rfl,rfl⟩|⟨rfl,rfl,rfl⟩|⟨rfl,rfl,rfl⟩|⟨rfl,rfl,rfl⟩|⟨rfl,rfl,rfl⟩|⟨rfl,rfl,rfl⟩
 all_goals
  refine callsIn_of_wp (by first|exact Tryz.func144|exact Tryz.func210|exact Tryz.func217|exact Tryz.func168|exact Tryz.func170|exact Tryz.func299) rfl trivial ?_ rfl
  simp only[Tryz.ntmps144,Tryz.ntmps210,Tryz.ntmps217,Tryz.ntmps168,Tryz.ntmps170,Tryz.ntmps299,List.size_toArray,List.length_cons,List.length_nil,Nat.reduceAdd,Nat.reduceSub,Array.replicate_succ,Array.replicate_zero,List.push_toArray,List.append_toArray,List.nil_append,List.cons_append]
  gi_wp2
  go_ret
  exact⟨rfl,rfl⟩
theorem py(G:Dx a f o)(n:Nat)(K:1<=n)(Bn A s:Nat)(F:s< ec)(w:World)(O:Bn< w.heap.size)(H:A<=w.heap.size)(C:0< A)(L:w.cell? (Ad Bn 0)=some (aH s))(N:Tz w):
  SeqStopsK Fence.wide n Tryz.prog a #[Pt Bn 0] (fun x:El s=>#[aB x.1]) (Below A) (fun E=>E=yT s) (fun B=>B.map (·.1)<+:et s) 64 w:=fun l J Q W D _ _ M P=>
 LX G n K l Bn A s F C J Q M W (bc D L) (N.below D) P
abbrev gJ:=@At _ _ _ (.inl ⟨rfl,rfl,rfl⟩)
abbrev fI:=@py _ _ _ tG
abbrev qw:=@At _ _ _ (.inr (.inl ⟨rfl,rfl,rfl⟩))
abbrev wP:=@py _ _ _ qn
abbrev qv:=@At _ _ _ (.inr (.inr (.inl ⟨rfl,rfl,rfl⟩)))
abbrev px:=@py _ _ _ vB
abbrev tP:=@At _ _ _ (.inr (.inr (.inr (.inl ⟨rfl,rfl,rfl⟩))))
abbrev rB:=@py _ _ _ yR
abbrev CY:=@At _ _ _ (.inr (.inr (.inr (.inr (.inl ⟨rfl,rfl,rfl⟩)))))
abbrev wQ:=@py _ _ _ CH
abbrev oD:=@At _ _ _ (.inr (.inr (.inr (.inr (.inr ⟨rfl,rfl,rfl⟩)))))
theorem DR{S ts:Nat}(d:S=196/\F=144/\a=212/\o=137/\b=375/\ts=284\/S=200/\F=210/\a=278/\o=163/\b=380/\ts=231\/S=284/\F=168/\a=236/\o=238/\b=409/\ts=351\/S=271/\F=299/\a=308/\o=275/\b=378/\ts=337)(q:∀(n s:Nat) (w:World),CallsIn Fence.wide n Tryz.prog F #[aH s] w fun e w'=>e=.returned (.func (.func a) #[] #[Pt w.heap.size 0])/\w'=w.alloc (.cells #[aH s] ts))(j:Dx a f o)(m:∀args w,(callFunc a args).run Tryz.prog w=.ok (.enter a args) w)(s:Nat)(X:s< ec)(p:Nat->Bool)(k:FuncId)(L A:Array Value)(w:World)(hg:0< w.heap.size)(i:Tz w)
  (g:∀(x:El s) (W:World),Bw w W->Ca k (L++#[aB x.1]++A) W (Rt W (.bool (p x.1))))
  (he:∀args w,(callFunc k args).run Tryz.prog w=.ok (.enter k args) w):
  Ca S #[aH s,.func (.func k) L A] w (Rt w (aH (iG s p))):=by
 obtain⟨HK,HT,HA,v,HE⟩:=ma g i q j m
 clear g i q j m
 have bF:=Boxed.new w b (.func (.func k) L A)
 have r:=Boxed.new (w.alloc (.cells #[.func (.func k) L A] b)) ts (aH 0)
 have t:=Boxed.new ((w.alloc (.cells #[.func (.func k) L A] b)).alloc (.cells #[aH 0] ts)) ts (aH s)
 rw[World.size_alloc]at r
 rw[World.size_alloc,World.size_alloc]at t
 have O:Bw w (((w.alloc (.cells #[.func (.func k) L A] b)).alloc (.cells #[aH 0] ts)).alloc (.cells #[aH s] ts)):=((ba w _).alloc (by simp) _).alloc (by simp;omega) _
 obtain⟨I,J⟩:=bM (fun B W=>(Boxed W (w.heap.size+1) ts (aH (jU s p B))/\Boxed W w.heap.size b (.func (.func k) L A))/\Bw w W:List (El s)->World->Prop)
 rcases d with⟨rfl,rfl,rfl,rfl,rfl,rfl⟩|⟨rfl,rfl,rfl,rfl,rfl,rfl⟩|⟨rfl,rfl,rfl,rfl,rfl,rfl⟩|⟨rfl,rfl,rfl,rfl,rfl,rfl⟩
 all_goals
  refine(callsIn_wide (n:=3)).1 ?_
  refine callsIn_of_wp_marks (by first|exact Tryz.func196|exact Tryz.func200|exact Tryz.func284|exact Tryz.func271) rfl trivial ?_ rfl
  simp only[Tryz.ntmps196,Tryz.ntmps200,Tryz.ntmps284,Tryz.ntmps271,List.size_toArray,List.length_cons,List.length_nil,Nat.reduceAdd,Nat.reduceSub,Array.replicate_succ,Array.replicate_zero,List.push_toArray,List.append_toArray,List.nil_append,List.cons_append]
  gi_wp2_with (refine⟨trivial,?_⟩;refine(HA _ _ _).mono ?_;rintro e w' ⟨rfl,rfl⟩)
  refine' wpIn_rangeFunc_ownG rfl (by decide) (lb:=#[Pt (w.heap.size+1+1) 0]) rfl trivial HE
   (py v 2 (by decide) (w.heap.size+1+1) w.heap.size s X _ (by simp) (by simp;omega) hg t.cell (HT.below O)) belowK_t (belowK_b (by simp;omega)) (Below.refl _ _) (fun _=>rfl)
   I
   (fun _ _ _=>False)
   (by rw[J];exact OwnFrom.and (OwnFrom.and (Own.from (boxed_own _ _ _) _) (Own.from (boxed_own _ _ _) _)) (ownFrom_below (Nat.le_refl _) (by simp;omega)))
   (fun _ _ _ _ _ X _ _=>X)
   (by rw[J];exact⟨⟨r.alloc _,(bF.alloc _).alloc _⟩,O⟩)
   _ ?assign ?body ?done ?stop
  case assign=>
   intro l x W K P
   gi_wp2
   exact P
  case body=>
   rintro l B x W E a1
   rw[J]at E⊢
   obtain⟨⟨V,T⟩,N⟩:=E
   have a3:=aG J
   clear J
   have Y:=T.cell
   have r1:=ff
   have y:=aG (HK x W N)
   gi_wp2
   refine⟨trivial,?_⟩
   refine(CallsIn.inRound l (callsIn_wide.2 y)).mono ?_
   rintro e W2 ⟨rfl,G⟩
   have R:=aL V G
   have Z:=aL T G
   have a2:=R.cell
   have hf3:=R.frozen
   obtain⟨C,z,u⟩:=bY G N (wO s p B x)
   have Q:=N.size
   have h4:=Z.lt
   have H:=aG (And.intro R Z)
   clear V T Y G N R Z y
   cases hp:p x.1
   ·have M:Hid (jU s p (B++[x])=jU s p B):=by show _=_;rw[u.out,hp];rfl
    gi_wp2
    exact⟨bO C,C.mono Q,⟨by rw[M.out];exact H.1,H.2⟩,z.trans (C.mono Q)⟩
   ·have M:Hid (jU s p (B++[x])=fV (jU s p B) (aW x.1)):=by show _=_;rw[u.out,hp];rfl
    have a0:Tryz.prog.follows .mixedOrders=true:=by kernel_rfl
    gi_wp2
    gi_region_with_o (refine⟨trivial,?_⟩;refine(CallsIn.inRound l (callsIn_wide.2 (v.2.2.2 x.1 x.2.1 _))).mono ?_;rintro e w' ⟨rfl,d⟩;subst w')
    all_goals gi_wp2
    all_goals
     refine⟨(bO C).trans (((KeepsOthers.setCell _ _ _).trans (KeepsOthers.drew _)).from _),?_,⟨by rw[M.out];exact H.1.set _,H.2.other (by omega) _⟩,?_⟩
     ·exact((C.mono Q).setCell (p:=Ad (w.heap.size+1) 0) (by show _<=w.heap.size+1;omega) _).drew
     ·exact((z.trans (C.mono Q)).setCell (p:=Ad (w.heap.size+1) 0) (by show _<=w.heap.size+1;omega) _).drew
  case done=>
   rintro D ys W hD rfl E P
   rw[J]at E
   obtain⟨⟨V,T⟩,N⟩:=E
   clear J
   have hc:=V.cell
   gi_wp2
   refine⟨by simp,.inl ⟨_,_,rfl,run_takeDeferred P,?_⟩⟩
   exact⟨_,results_tmp rfl _ _ _,by rw[rA];rfl,N.trans (belowK_b (w:=w) (Nat.le_refl _) W D _ _ (by simp at hD;omega) P rfl rfl)⟩
  case stop=>
   rintro D c B W _ _ h _
   exact h.elim
abbrev mK:=@DR _ _ _ _ _ _ _ (.inl ⟨rfl,rfl,rfl,rfl,rfl,rfl⟩) gJ tG (enters_of Tryz.func212 (by kernel_rfl) rfl)
abbrev ry:=@DR _ _ _ _ _ _ _ (.inr (.inl ⟨rfl,rfl,rfl,rfl,rfl,rfl⟩)) qw qn (enters_of Tryz.func278 (by kernel_rfl) rfl)
abbrev Bh:=@DR _ _ _ _ _ _ _ (.inr (.inr (.inl ⟨rfl,rfl,rfl,rfl,rfl,rfl⟩))) tP yR (enters_of Tryz.func236 (by kernel_rfl) rfl)
abbrev sA:=@DR _ _ _ _ _ _ _ (.inr (.inr (.inr ⟨rfl,rfl,rfl,rfl,rfl,rfl⟩))) oD oz (enters_of Tryz.func308 (by kernel_rfl) rfl)
end
def Mk(w:World)(B:Nat):List Deferred->Prop
 |[]=>True
 |d::ds=>(∃D,d={target:=.collected D,args:=#[]}/\B<=D/\w.heap[D]?=some (.deferred (some []))/\∀d'∈ds,d'.target≠.collected D)/\Mk w B ds
theorem Mk.mem{B:Nat}:∀{C:List Deferred},Mk w B C->∀d∈C,∃D,d={target:=.collected D,args:=#[]}/\B<=D/\w.heap[D]?=some (.deferred (some []))
 |[],_,d,A=>by cases A
 |x::C,h,d,A=>by
  rcases List.mem_cons.1 A with rfl|A
  ·obtain⟨D,e,F,E,_⟩:=h.1
   exact⟨D,e,F,E⟩
  ·exact Mk.mem h.2 d A
theorem Mk.move{w':World}{B:Nat}:∀{A:List Deferred},Mk w B A->(∀D,({target:=.collected D,args:=#[]}:Deferred)∈A->w'.heap[D]?=w.heap[D]?)->Mk w' B A
 |[],_,_=>trivial
 |d::A,h,k=>by
  obtain⟨⟨D,e,H,G,F⟩,E⟩:=h
  subst e
  exact⟨⟨D,rfl,H,by rw[k D (by simp)];exact G,F⟩,Mk.move E (fun J C=>k J (List.mem_cons_of_mem _ C))⟩
theorem Mk.lt{B:Nat}{C:List Deferred}(h:Mk w B C)(E:({target:=.collected D,args:=#[]}:Deferred)∈C):B<=D/\D< w.heap.size/\w.heap[D]?=some (.deferred (some [])):=by
 obtain⟨G,e,F,A⟩:=h.mem _ E
 cases e
 exact⟨F,(gl A),A⟩
theorem Mk.cons{w':World}{B:Nat}{E:List Deferred}(h:Mk w B E)(k:∀(i:Nat) (o:Obj),w.heap[i]?=some o->o.isCells=false->w'.heap[i]?=some o)(H:B<=D)(L:w.heap.size<=D)(G:w'.heap[D]?=some (.deferred (some []))):Mk w' B ({target:=.collected D,args:=#[]}::E):=by
 refine⟨⟨D,rfl,H,G,fun K A e=>?_⟩,h.move (fun F C=>?_)⟩
 ·obtain⟨F,e',M,J⟩:=h.mem K A
  subst e'
  simp only[Target.collected.injEq]at e
  subst e
  have:=(gl J)
  omega
 ·have:=(h.lt C).2.2
  rw[this]
  exact k F _ this rfl
theorem Ao{B:Nat}(o:Obj)(h:B<=D):Below B w (w.putObj D o):=by
 refine⟨rfl,rfl,rfl,by simp[World.putObj],fun k A=>?_⟩
 simp[World.putObj,Array.getElem?_setIfInBounds]
 intro e
 omega
theorem iy{F:Fence}{P:Program}{G:Func}{A:Array Value}{R:Ending->World->Prop}{B:Nat}:∀(C:List Deferred) (w:World),Mk w B C->
  (∀w',Below B w w'->LeavesInM F n P G A R [] .returning w')->LeavesInM F n P G A R C .returning w
 |[],w,_,h=>h w (Below.refl _ _)
 |d::C,w,hm,h=>by
  obtain⟨⟨D,e,L,K,J⟩,H⟩:=hm
  subst e
  refine⟨by simp,.inl ⟨_,_,rfl,run_takeDeferred K,?_⟩⟩
  refine iy C _ (H.move (fun M E=>?_)) (fun w' k=>h w' ((Ao _ L).trans k))
  have:D≠M:=fun e=>J _ E (by rw[e])
  simp[World.putObj,Array.getElem?_setIfInBounds,this]
def oo(nx:Nat->Nat)(l:List Nat):Nat:=l.foldl (fun a x=>fV a (nx x)) 0
def dD(nx:Nat->Nat):Nat->Nat->Nat->Option Nat
 |0,r,f=>if f=0 then some r else none
 |k+1,r,f=>if f=0 then some r else dD nx k (fV r (ew (oo nx (et f)) r)) (ew (oo nx (et f)) r)
theorem uL{nx:Nat->Nat}(h:dD nx k r 0=some R):r=R:=by
 cases k<;>simpa[dD]using h
theorem uM{nx:Nat->Nat}(A:f≠0)(h:dD nx k r f=some R):∃B,dD nx B (fV r (ew (oo nx (et f)) r)) (ew (oo nx (et f)) r)=some R:=by
 cases k with
 |zero=>simp[dD,A]at h
 |succ k=>exact⟨k,by simpa[dD,A]using h⟩
theorem pH{nx:Nat->Nat}:∀{k r f R:Nat},dD nx k r f=some R->∀i,i< 64->r.testBit i=true->R.testBit i=true
 |0,r,f,R,h,i,_,hi=>by
  by_cases e:f=0
  ·simp[dD,e]at h;subst h;exact hi
  ·simp[dD,e]at h
 |k+1,r,f,R,h,i,h6,hi=>by
  by_cases e:f=0
  ·simp[dD,e]at h;subst h;exact hi
  ·rw[dD,if_neg e]at h
   exact pH h i h6 (by rw[kG];simp[h6,hi])
theorem Gy(D:r< ec)(A:f< ec)(G:f≠0)(h:∀i,f.testBit i=true->r.testBit i=false):r< fV r f:=by
 have e:fV r f=r|||f:=Nat.mod_eq_of_lt (Nat.or_lt_two_pow (n:=64) D A)
 have B:=lN G A
 have E:r<=r|||f:=Nat.left_le_or
 rw[e]
 rcases Nat.lt_or_ge r (r|||f)with a|a
 ·exact a
 ·have H:r|||f=r:=by omega
  have F:=h _ B.2.1
  have C:(r|||f).testBit (Lib.ctz 64 f)=true:=by rw[Nat.testBit_or,B.2.1];simp
  rw[H,F]at C
  cases C
theorem wI(b r i:Nat)(h:(ew b r).testBit i=true):r.testBit i=false:=by
 rw[fW]at h
 simp at h
 exact h.2
section
attribute [local go_sem] Oper.semAt_some
def Ji(f:Nat)(nx:Nat->Nat)(l:List (El f)):Nat:=l.foldl (fun a x=>fV a (nx x.1)) 0
theorem BV(f:Nat)(nx:Nat->Nat)(l:List (El f))(x:El f):Ji f nx (l++[x])=fV (Ji f nx l) (nx x.1):=by
 unfold Ji;rw[List.foldl_append];rfl
theorem EC(f:Nat)(nx:Nat->Nat):Ji f nx (yT f)=oo nx (et f):=by
 unfold Ji oo
 rw[<-dO,List.foldl_map]
theorem xx{B:Nat}{X:World}(h:KeepsFrom B W.drew X):KeepsFrom B W X:=⟨h.size,h.same⟩
def yG(a b:Value):Nat:=2*(ec-(intOf a).toNat)+(if(intOf b).toNat=0 then 0 else 1)
theorem Bx(A:r< ec)(B:f≠0)(o:Nat):yG (aH (fV r (ew o r):Nat)) (aH (ew o r:Nat))< yG (aH (r:Nat)) (aH (f:Nat)):=by
 unfold yG
 simp only[intOf,Int.toNat_natCast]
 by_cases e:ew o r=0
 ·have:fV r 0=r:=by unfold fV;rw[Nat.or_zero];exact Nat.mod_eq_of_lt A
  simp[e,B,this]
 ·have:=Gy A (mH o r) e (fun i C=>wI _ _ _ C)
  have D:=kE r (ew o r)
  simp[e,B]
  omega
structure KM(w wr:World)(FT:TypeId)(fv:Value)(nx:Nat->Nat)(R r f:Nat)(ds:List Deferred):Prop where
 hr:r< ec
 hf:f< ec
 sub:∀i,f.testBit i=true->r.testBit i=true
 ex:∃k,dD nx k r f=some R
 bx:Boxed wr w.heap.size FT fv
 bl:Below w.heap.size w wr
 mks:Mk wr (w.heap.size+1) ds
theorem yF{S ts:Nat}(hq:S=276/\F=299/\a=308/\d=381/\ts=337\/S=136/\F=144/\a=212/\d=291/\ts=284\/S=211/\F=210/\a=278/\d=343/\ts=231\/S=220/\F=217/\a=280/\d=395/\ts=178)(hA:∀(n s:Nat) (w:World),CallsIn Fence.wide n Tryz.prog F #[aH s] w fun e w'=>e=.returned (.func (.func a) #[] #[Pt w.heap.size 0])/\w'=w.alloc (.cells #[aH s] ts))(hF:Dx a f o)(hE:∀args w,(callFunc a args).run Tryz.prog w=.ok (.enter a args) w)(b R:Nat)(hb:b< ec)(nx:Nat->Nat)(k:FuncId)(N A:Array Value)(w:World)(hg:0< w.heap.size)(hT:Tz w)(hR:∃j,dD nx j b b=some R)
  (hk:∀(x:Nat) (W:World),x< 64->R.testBit x=true->Bw w W->Ca k (N++#[aB x]++A) W (Rt W (aH (nx x))))
  (he:∀args w,(callFunc k args).run Tryz.prog w=.ok (.enter k args) w):
  Ca S #[aH b,.func (.func k) N A] w (Rt w (aH R)):=by
 obtain⟨HK,HT⟩:=aN hk hT
 have r1:=iK
 have r2:=ff
 have HI:Hid (KM w (w.alloc (.cells #[.func (.func k) N A] d)) d (.func (.func k) N A) nx R b b []):=⟨hb,hb,fun _ h=>h,hR,Boxed.new _ _ _,ba _ _,trivial⟩
 obtain⟨HA,HF,HE⟩:=bY hA hF hE
 clear hk hT hR hA hF hE
 have HG:Hid (∀(wr:World) (f:Nat),Boxed (wr.alloc (.cells #[aH 0] ts)) wr.heap.size ts (aH 0)/\Boxed ((wr.alloc (.cells #[aH 0] ts)).alloc (.cells #[aH f] ts)) (wr.heap.size+1) ts (aH f)/\Bw wr ((wr.alloc (.cells #[aH 0] ts)).alloc (.cells #[aH f] ts))):=fun wr f=>by
  have bA:=Boxed.new (wr.alloc (.cells #[aH 0] ts)) ts (aH f)
  rw[World.size_alloc]at bA
  exact⟨Boxed.new wr ts (aH 0),bA,(ba wr _).alloc (by simp) _⟩
 obtain⟨J,hJ⟩:=bM (fun wr r f T=>KM w wr d (.func (.func k) N A) nx R r f T:World->Nat->Nat->List Deferred->Prop)
 obtain⟨I,hI⟩:=bM (fun wr f G W=>(Boxed W wr.heap.size ts (aH (Ji f nx G))/\Boxed W w.heap.size d (.func (.func k) N A))/\Bw wr W:World->(f:Nat)->List (El f)->World->Prop)
 rcases hq with⟨rfl,rfl,rfl,rfl,rfl⟩|⟨rfl,rfl,rfl,rfl,rfl⟩|⟨rfl,rfl,rfl,rfl,rfl⟩|⟨rfl,rfl,rfl,rfl,rfl⟩
 all_goals
  refine(callsIn_wide (n:=3)).1 ?_
  refine callsIn_of_wp_marks (by first|exact Tryz.func276|exact Tryz.func136|exact Tryz.func211|exact Tryz.func220) rfl trivial ?_ rfl
  simp only[Tryz.ntmps276,Tryz.ntmps136,Tryz.ntmps211,Tryz.ntmps220,List.size_toArray,List.length_cons,List.length_nil,Nat.reduceAdd,Nat.reduceSub,Array.replicate_succ,Array.replicate_zero,List.push_toArray,List.append_toArray,List.nil_append,List.cons_append]
  gi_wp2
  refine wpIn_loop (fun a wr=>∃(u7 u8 a4 a3 a2 a1 a0 z y v u t q m g Z Y X V:Value) (T:List Deferred) (r f:Nat),a={tmps:=#[aH b,.func (.func k) N A,undef,Pt w.heap.size 0,aH 0,aH r,aH f,u7,u8,aH b,aH b,a4,a3,a2,a1,a0,z,y,v,u,t,q,m,g,Z,Y,X,V],defers:=T}/\Hid (J wr r f T)) (fun a _=>yG (a.tmps.getD 5 undef) (a.tmps.getD 6 undef)) ?start ?round
  case start=>subst hJ;exact⟨_,_,_,_,_,_,_,_,_,_,_,_,_,_,_,_,_,_,_,_,_,_,rfl,HI⟩
  case round=>
   rintro a wr ⟨u7,u8,a4,a3,a2,a1,a0,z,y,v,u,t,q,m,g,Z,Y,X,V,T,r,f,rfl,E⟩
   subst hJ
   by_cases h0:f=0
   ·have ac:((f:Int)!=0)=false:=by rw[h0];rfl
    have HX:Hid (r=R):=by
     obtain⟨j,Q⟩:=E.ex
     rw[h0]at Q
     exact uL Q
    clear h0
    gi_wp2
    refine iy T _ E.mks (fun w' kb=>?_)
    exact⟨_,results_tmp rfl _ _ _,by rw[<-HX.out];rfl,E.bl.trans (kb.mono (by omega))⟩
   ·have ac:((f:Int)!=0)=true:=by rw[bne_iff_ne];omega
    have a6:=E.bx
    have hB:=E.bl
    have hz:=hB.size
    have al:=a6.lt
    gi_wp2_with (refine⟨trivial,?_⟩;refine(HA _ _ _).mono ?_;rintro e w' ⟨rfl,rfl⟩)
    obtain⟨bS,bA,a7⟩:=HG wr f
    refine' wpIn_rangeFunc_ownG rfl (by decide) (lb:=#[Pt (wr.heap.size+1) 0]) rfl trivial HE
     (py HF 2 (by decide) (wr.heap.size+1) wr.heap.size f E.hf _ (by simp) (by simp;omega) (by omega) bA.cell (Tz.below (Tz.low HT hg hB) a7)) belowK_t (belowK_b (by simp;omega)) (Below.refl _ _) (fun _=>rfl)
     (I wr f)
     (fun _ _ _=>False)
     (by rw[hI];exact OwnFrom.and (OwnFrom.and (Own.from (boxed_own _ _ _) _) (Own.from (boxed_own _ _ _) _)) (ownFrom_below (Nat.le_refl _) (by simp;omega)))
     (fun _ _ _ _ _ hs _ _=>hs)
     (by rw[hI];exact⟨⟨bS.alloc _,(a6.alloc _).alloc _⟩,a7⟩)
     _ ?assign ?body ?done ?stop
    case assign=>
     intro l x W K hK
     gi_wp2
     exact hK
    case body=>
     rintro l G x W M ai
     subst hI
     obtain⟨⟨P,O⟩,C⟩:=M
     have a5:=P.cell
     have ak:=O.cell
     have ah:Tryz.prog.follows .mixedOrders=true:=by kernel_rfl
     have aa:R.testBit x.1=true:=by
      obtain⟨j,Q⟩:=E.ex
      exact pH Q x.1 x.2.1 (E.sub _ x.2.2)
     have ag:=C.size
     have am:=P.lt
     have af:=O.lt
     obtain⟨HC,a8,ae,HN⟩:=fK (HK x.1 W.drew x.2.1 aa (hB.trans (C.mono hz)).drew) (And.intro P O) C (BV f nx G x)
     clear P O C
     gi_wp2
     gi_region_with_o (refine⟨trivial,?_⟩;refine(CallsIn.inRound l (callsIn_wide.2 HC)).mono ?_;rintro e W2 ⟨rfl,H⟩;have b3:=aL (W:=W.drew) a8.1 H;have aj:=b3.cell;have hf3:=b3.frozen;have a9:=aG (And.intro b3 (aL (W:=W.drew) a8.2 H));have B:=aG H;clear H b3)
     all_goals gi_wp2
     all_goals
      refine⟨xx<|(bO (W:=W.drew) B).trans ((KeepsOthers.setCell _ _ _).from _),?_,⟨by rw[HN.out];exact a9.1.set _,a9.2.other (by omega) _⟩,?_⟩
      ·exact Below.setCell (p:=Ad wr.heap.size 0) (⟨B.os,B.tape,B.output,B.size,fun i L=>B.block i (by show i< W.heap.size;omega)⟩:Below wr.heap.size W _) (by show _<=wr.heap.size;omega) _
      ·exact Below.setCell (p:=Ad wr.heap.size 0) (ae.trans (⟨B.os,B.tape,B.output,B.size,fun i L=>B.block i (by show i< W.heap.size;omega)⟩:Below wr.heap.size W _)) (by show _<=wr.heap.size;omega) _
    case done=>
     rintro D ys W hD rfl M ad
     subst hI
     obtain⟨⟨P,O⟩,C⟩:=M
     have a5:=P.cell
     obtain⟨HX,HE⟩:=aN (And.intro O C) (EC f nx)
     clear P O C
     rw[HE.out]at a5
     gi_wp2
     have ab:=kE r (ew (oo nx (et f)) r)
     have hf2:=mH (oo nx (et f)) r
     refine⟨⟨_,_,_,_,_,_,_,_,_,_,_,_,_,_,_,_,_,_,_,_,_,_,rfl,⟨ab,hf2,fun i L=>?_,?_,HX.1,hB.trans (HX.2.mono hz),?_⟩⟩,?_⟩
     ·rw[kG,L];simp[wM hf2 L]
     ·obtain⟨j,Q⟩:=E.ex
      exact uM h0 Q
     ·exact E.mks.cons (fun i o L _=>(HX.2.block i (gl L)).trans L) (by simp at hD;omega) (by simp at hD;omega) ad
     ·exact Bx E.hr h0 _
    case stop=>
     rintro D c G W _ _ h _
     exact h.elim
abbrev qI:=@yF _ _ _ _ _ _ _ (.inl ⟨rfl,rfl,rfl,rfl,rfl⟩) oD oz (enters_of Tryz.func308 (by kernel_rfl) rfl)
abbrev rH:=@yF _ _ _ _ _ _ _ (.inr (.inl ⟨rfl,rfl,rfl,rfl,rfl⟩)) gJ tG (enters_of Tryz.func212 (by kernel_rfl) rfl)
abbrev xc:=@yF _ _ _ _ _ _ _ (.inr (.inr (.inl ⟨rfl,rfl,rfl,rfl,rfl⟩))) qw qn (enters_of Tryz.func278 (by kernel_rfl) rfl)
abbrev xb:=@yF _ _ _ _ _ _ _ (.inr (.inr (.inr ⟨rfl,rfl,rfl,rfl,rfl⟩))) qv vB (enters_of Tryz.func280 (by kernel_rfl) rfl)
end
section
structure ft(x:Rp):Prop where
 ends:x.ends<=48
 len:x.stmts.length<=53
 st:∀s,s< x.stmts.length->(x.st s).fn< 5/\((x.st s).nx=-1\/(0<=(x.st s).nx/\(x.st s).nx<=48))/\((x.st s).ins=-1\/(0<=(x.st s).ins/\(x.st s).ins<=48))
theorem ft.spot_lt(h:ft x){p:Int}(A:f< 5)(hp:p=-1\/(0<=p/\p<=48)):x.spot f p< 64:=by
 have:=h.ends
 unfold Rp.spot
 split<;>omega
theorem yH(h:cA w a x)(ok:ft x)(V:s< x.stmts.length):
  Calls Tryz.prog 194 #[aF a,aB s] w (Rt w (aH (x.nextOf s))):=by
 obtain⟨g,c,b,sr,sb,c0,z,y,v,u,Y,t⟩:=h.stm V
 have m:Ce w b 2 (aB (x.st s).p.kind):=Y.cell 2
 have hl:=Y.lt
 obtain⟨j,q,o⟩:=ok.st s V
 have oe:=ok.ends
 have r:=ok.spot_lt j q
 have l:=ok.spot_lt j o
 obtain⟨N,G⟩:=bM (w.alloc (.cells #[aF b,aB (x.st s).fn,aB (x.st s).nx,aB (x.st s).ins] 253))
 have L:Bw w N:=by rw[G];exact ba _ _
 have S:∀W,Bw w W->Hid (Ca 204 #[aF a,aB s] W (Ru W (aB (x.st s).fn))):=fun W k=>jk (h.keep k) V
 have Z:∀W,Bw w W->Hid (Ca 135 #[aF a,aB (x.st s).fn,aB (x.st s).nx] W (Ru W (aB (x.spot (x.st s).fn (x.st s).nx:Nat)))):=fun W k=>BA (h.keep k) _ _ (by omega) (by omega) (by omega)
 have H:∀W,Bw w W->Hid (Ca 135 #[aF a,aB (x.st s).fn,aB (x.st s).ins] W (Ru W (aB (x.spot (x.st s).fn (x.st s).ins:Nat)))):=fun W k=>BA (h.keep k) _ _ (by omega) (by omega) (by omega)
 replace S:=aG S
 replace Z:=aG Z
 replace H:=aG H
 have J:=aG L
 have F:aM N w.heap.size #[aF b,aB (x.st s).fn,aB (x.st s).nx,aB (x.st s).ins]:=by rw[G];exact aM.new _ _ _
 have i:Ce N w.heap.size 0 (aF b):=F.cell 0
 have n:Ce N w.heap.size 2 (aB (x.st s).nx):=F.cell 2
 have f:Ce N w.heap.size 3 (aB (x.st s).ins):=F.cell 3
 have d:N.cell? (Ad b 2)=some (aB (x.st s).p.kind):=bc L m
 have Q:(((x.st s).p.kind:Int)==12)=decide ((x.st s).p.kind=12):=by rw[Bool.eq_iff_iff,beq_iff_eq,decide_eq_true_iff];omega
 have M:(((x.st s).p.kind:Int)==13)=decide ((x.st s).p.kind=13):=by rw[Bool.eq_iff_iff,beq_iff_eq,decide_eq_true_iff];omega
 have P:(((x.st s).p.kind:Int)==14)=decide ((x.st s).p.kind=14):=by rw[Bool.eq_iff_iff,beq_iff_eq,decide_eq_true_iff];omega
 have R:=aG G
 have r1:=ff
 clear h Y t L ok F G
 go_in
 go_wp2_with fail
 rw[<-R.out]
 clear R c0 z y v u m
 go_quiet ((first|(go_at_call 204;exact Calls.quiet_of_same (S _ (aR J _)).out)|(go_at_call 135;exact Calls.quiet_of_same (Z _ (aR J _)).out)|(go_at_call 137;exact Calls.quiet_of_same (jK _ r _))))
 obtain⟨T,C⟩:∃W,N.drewN nq=W:=⟨_,rfl⟩
 have B:Hid (Bw w T):=by rw[<-C];exact aR J _
 have z0:T.cell? (Ad w.heap.size 0)=some (aF b):=by rw[<-C];exact i
 have z3:T.cell? (Ad w.heap.size 3)=some (aB (x.st s).ins):=by rw[<-C];exact f
 have z2:T.cell? (Ad b 2)=some (aB (x.st s).p.kind):=by rw[<-C];exact d
 rw[C]
 clear C i n f d J
 by_cases E:(x.st s).p.kind=12
 ·have X:decide ((x.st s).p.kind=12)=true:=by simp[E]
  rw[X]at Q
  have O:Hid (x.nextOf s=0):=by show _=_;unfold Rp.nextOf;rw[if_pos E]
  go_wp2_with fail
  go_ret
  exact⟨by rw[O.out];rfl,B⟩
 ·have X:decide ((x.st s).p.kind=12)=false:=by simp[E]
  rw[X]at Q
  by_cases A:(x.st s).p.kind=13\/(x.st s).p.kind=14
  ·have O:Hid (x.nextOf s=fV (aW (x.spot (x.st s).fn (x.st s).nx)) (aW (x.spot (x.st s).fn (x.st s).ins))):=by show _=_;unfold Rp.nextOf;rw[if_neg E,if_pos A]
   rcases A with A|A
   ·have D:decide ((x.st s).p.kind=13)=true:=by simp[A]
    rw[D]at M
    go_wp2_with fail
    go_quiet ((first|(go_at_call 204;exact Calls.quiet_of_same (S _ (aR B _)).out)|(go_at_call 135;exact Calls.quiet_of_same (H _ (aR B _)).out)|(go_at_call 137;exact Calls.quiet_of_same (jK _ l _))))
    go_wp2_with fail
    go_ret
    exact⟨by rw[O.out];rfl,aR B _⟩
   ·have D:decide ((x.st s).p.kind=13)=false:=by simp[A]
    have K:decide ((x.st s).p.kind=14)=true:=by simp[A]
    rw[D]at M
    rw[K]at P
    go_wp2_with fail
    go_quiet ((first|(go_at_call 204;exact Calls.quiet_of_same (S _ (aR B _)).out)|(go_at_call 135;exact Calls.quiet_of_same (H _ (aR B _)).out)|(go_at_call 137;exact Calls.quiet_of_same (jK _ l _))))
    go_wp2_with fail
    go_ret
    exact⟨by rw[O.out];rfl,aR B _⟩
  ·have O:Hid (x.nextOf s=aW (x.spot (x.st s).fn (x.st s).nx)):=by show _=_;unfold Rp.nextOf;rw[if_neg E,if_neg A]
   have D:decide ((x.st s).p.kind=13)=false:=by simp;intro e;exact A (.inl e)
   have K:decide ((x.st s).p.kind=14)=false:=by simp;intro e;exact A (.inr e)
   rw[D]at M
   rw[K]at P
   go_wp2_with fail
   go_ret
   exact⟨by rw[O.out];rfl,B⟩
end
theorem cA.begins(h:cA w a x)(B:f< x.begins.length):∃g c,w.cell? (Ad a 2)=some (.slice (some (Ad g 0)) x.begins.length c)/\w.cell? (Ad g f)=some (aB (x.begins.getD f 0)):=by
 obtain⟨G,D,tv,E,F,C,A,-⟩:=h.ex
 obtain⟨g,c,e⟩:=aO A (by omega)
 subst e
 refine⟨g,c,C.cell 2,?_⟩
 rw[A.cellAt _ (by omega)]
 simp[dG,B]
theorem JT(h:cA w a x)(ok:ft x)(N:s< x.stmts.length)(K:(x.isCall s||x.isStart s)=true->(x.st s).p.nn< x.begins.length/\x.begins.getD (x.st s).p.nn 0< 64):
  Calls Tryz.prog 138 #[aF a,aB s] w (Rt w (aH (x.comeOf s))):=by
 have r1:=ff
 have O:=aG (yH h ok N)
 have G:Hid (∀W,Bw w W->Ca 195 #[aF a,aB s] W (Rt W (.tuple #[aB (x.st s).p.nn,.bool (x.isCall s||x.isStart s)]))):=fun W k=>yI (h.keep k) N
 cases C:(x.isCall s||x.isStart s)
 ·have F:Hid (x.comeOf s=x.nextOf s):=by show _=_;unfold Rp.comeOf;rw[C];rfl
  rw[C]at G
  clear h ok K C
  go_in
  go_wp2_with fail
  refine O.mono ?_
  rintro r H ⟨rfl,B⟩
  replace B:=aG B
  go_wp2_with fail
  refine(G H B).mono ?_
  rintro r D ⟨rfl,A⟩
  replace A:=aG A
  go_wp2_with fail
  go_ret
  exact⟨by rw[F.out];rfl,B.trans (A.mono B.size)⟩
 ·have F:Hid (x.comeOf s=fV (x.nextOf s) (aW (x.begins.getD (x.st s).p.nn 0))):=by show _=_;unfold Rp.comeOf;rw[C];rfl
  obtain⟨Q,M⟩:=K C
  obtain⟨v,J⟩:∃v,x.begins.getD (x.st s).p.nn 0=v:=⟨_,rfl⟩
  rw[J]at F M
  have L:Hid (∀W,Bw w W->∃g c,Ce W a 2 (.slice (some (Ad g 0)) x.begins.length c)/\W.cell? (Ad g (x.st s).p.nn)=some (aB v)):=fun W k=>by rw[<-J];exact(h.keep k).begins Q
  rw[C]at G
  clear h ok K C J
  go_in
  go_wp2_with fail
  refine O.mono ?_
  rintro r H ⟨rfl,B⟩
  replace B:=aG B
  go_wp2_with fail
  refine(G H B).mono ?_
  rintro r D ⟨rfl,A⟩
  have E:Hid (Bw w D):=B.trans (A.mono B.size)
  obtain⟨g,c,X,S⟩:=L D E
  have R:D.cell? (Ad g ((x.st s).p.nn*1))=some (aB v):=by rw[Nat.mul_one];exact S
  have T:=aG (jK _ M D)
  clear A
  go_wp2_with fail
  refine T.mono ?_
  rintro r P ⟨rfl,V⟩
  subst P
  go_wp2_with fail
  go_ret
  exact⟨by rw[F.out];rfl,E⟩
theorem jG(h:cA w a x)(D:x.starts.length< 64):
  Calls Tryz.prog 199 #[aF a] w (Ru w (aH (dB (aW x.starts.length)))):=by
 obtain⟨N,H,tv,J,K,B,F,E,A,-⟩:=h.ex
 obtain⟨p,c,rfl⟩:=aI A
 have M:Ce w a 4 (.slice p x.starts.length c):=B.cell 4
 have G:=aG (xO x.starts.length D w)
 clear h B F E A
 go_in
 go_wp2_with fail
 refine G.mono ?_
 rintro r C ⟨rfl,L⟩
 subst C
 go_wp2_with fail
 go_ret
 exact⟨rfl,rfl⟩
theorem qA:Et 194:=enters_of Tryz.func194 (by kernel_rfl) rfl
theorem qC:Et 138:=enters_of Tryz.func138 (by kernel_rfl) rfl
theorem uP(h:cA w b x)(ok:ft x)(hg:0< w.heap.size)(D:Tz w)(L:s< x.stmts.length)(E:∃j,dD x.nextOf j (x.nextOf s) (x.nextOf s)=some R)(N:x.nextOf s< ec)(C:∀i,i< 64->R.testBit i=true->i< x.stmts.length):
  Calls Tryz.prog 197 #[aF b,aB s] w (Rt w (.bool (eU R s))):=by
 have S:=aG (yH h ok L)
 have Q:Hid (∀W,Bw w W->Ca 136 #[aH (x.nextOf s),.func (.func 194) #[aF b] #[]] W (Rt W (aH R))):=fun W k=>
  rH _ R N x.nextOf 194 #[aF b] #[] W (Nat.lt_of_lt_of_le hg k.size) (D.below k) E (fun y W' O K J=>yH ((h.keep k).keep J) ok (C y O K)) qA
 have M:s< 64:=by have:=ok.len;omega
 clear h ok D C E
 go_in
 go_wp2_with fail
 refine S.mono ?_
 rintro r H ⟨rfl,A⟩
 replace A:=aG A
 go_wp2_with fail
 refine(Q H A).mono ?_
 rintro r G ⟨rfl,B⟩
 replace B:=aG B
 have P:=aG (lJ R s M G)
 go_wp2_with fail
 refine P.mono ?_
 rintro r F ⟨rfl,T⟩
 subst F
 go_wp2_with fail
 go_ret
 exact⟨rfl,A.trans (B.mono A.size)⟩
namespace Rp
def inOf(x:Rp)(fs:Nat):Nat:=iG x.spots (fun s=>eU fs (x.st s).fn)
end Rp
structure cP(x:Rp):Prop where
 lt:x.spots< ec
 mem:∀i,i< 64->x.spots.testBit i=true->i< x.stmts.length
theorem jh(s:Nat)(p:Nat->Bool):iG s p< ec:=by rw[<-rA];exact Bi _ _ _
theorem jg{p:Nat->Bool}(F:i< 64)(h:(iG s p).testBit i=true):s.testBit i=true/\p i=true:=by
 have:∀(l:List Nat) (a:Nat),(∀y∈l,y< 64)->(l.foldl (fun a x=>if p x then fV a (aW x)else a) a).testBit i=true->a.testBit i=true\/(i∈l/\p i=true):=by
  intro l
  induction l with
  |nil=>intro a _ h;exact .inl h
  |cons y l ih=>
   intro a C h
   rw[List.foldl_cons]at h
   rcases ih _ (fun z D=>C z (List.mem_cons_of_mem _ D)) h with e|⟨B,A⟩
   ·split at e
    ·rename_i hp
     rw[kG,iu (C y (by simp))]at e
     simp[F]at e
     rcases e with e|e
     ·exact .inl e
     ·subst e;exact .inr ⟨by simp,hp⟩
    ·exact .inl e
   ·exact .inr ⟨List.mem_cons_of_mem _ B,A⟩
 rcases this (et s) 0 (fun y E=>(tI E).1) h with e|⟨B,A⟩
 ·simp at e
 ·exact⟨(tI B).2,A⟩
theorem rd:Et 228:=enters_of Tryz.func228 (by kernel_rfl) rfl
theorem LC{fs:Nat}(h:cA w a x)(ok:ft x)(A:s< x.stmts.length)(E:w.cell? (Ad b 0)=some (aH fs))(D:w.cell? (Ad c 0)=some (aF a)):
  Calls Tryz.prog 228 #[aB s,Pt b 0,Pt c 0] w (Rt w (.bool (eU fs (x.st s).fn))):=by
 have C:∀k,Hid (Ca 204 #[aF a,aB s] (w.drewN k) fun r w'=>r=.returned (aB (x.st s).fn)/\w'=w.drewN k):=fun k=>jk (h.keep (aR (Below.refl _ _) k)) A
 have B:(x.st s).fn< 64:=by have:=(ok.st s A).1;omega
 clear h ok
 go_in
 go_wp2_with fail
 go_quiet ((first|(go_at_call 204;exact Calls.quiet_of_same (C _).out)|(go_at_call 203;exact Calls.quiet_of_same (iR _ _ B _))))
 go_wp2_with fail
 go_ret
 exact⟨rfl,aR (Below.refl _ _) _⟩
theorem Jg(h:cA w a x)(ok:ft x)(sp:cP x)(hg:0< w.heap.size)(H:Tz w)(fs:Nat):
  Calls Tryz.prog 159 #[aF a,aH fs] w (Rt w (aH (x.inOf fs))):=by
 obtain⟨R,M,tv,N,O,F,-⟩:=h.ex
 have Q:Ce w a 5 (aH x.spots):=F.cell 5
 have P:=F.lt
 obtain⟨C,B⟩:=bM ((w.alloc (.cells #[aF a] 221)).alloc (.cells #[aH fs] 337))
 have A:Bw w C:=by rw[B];exact(ba _ _).alloc (by simp) _
 have bP:Boxed C w.heap.size 221 (aF a):=by rw[B];exact(Boxed.new _ _ _).alloc _
 have J:Boxed C (w.heap.size+1) 337 (aH fs):=by rw[B];have:=Boxed.new (w.alloc (.cells #[aF a] 221)) 337 (aH fs);rw[World.size_alloc]at this;exact this
 have K:Hid (Ca 196 #[aH x.spots,.func (.func 228) #[] #[Pt (w.heap.size+1) 0,Pt w.heap.size 0]] C (Rt C (aH (x.inOf fs)))):=
  mK x.spots sp.lt (fun s=>eU fs (x.st s).fn) 228 #[] _ C (Nat.lt_of_lt_of_le hg A.size) (H.below A) (fun y W k=>LC ((h.keep A).keep k) ok (sp.mem y.1 y.2.1 y.2.2) (aL J k).cell (aL bP k).cell) rd
 obtain⟨D,G⟩:=aN A B
 clear h F ok sp H bP J A B
 go_in
 go_wp2_with fail
 rw[<-G.out]
 refine K.mono ?_
 rintro r L ⟨rfl,E⟩
 replace E:=aG E
 go_wp2_with fail
 go_ret
 exact⟨rfl,D.trans (E.mono D.size)⟩
def MJ(x:Int):Int:=IntKind.u64.wrap (bits .and .u64 (x/2) 6148914691236517205+bits .and .u64 x 6148914691236517205)
def MI(x:Int):Int:=IntKind.u64.wrap (bits .and .u64 (x/4) 3689348814741910323+bits .and .u64 x 3689348814741910323)
def MH(x:Int):Int:=bits .and .u64 (IntKind.u64.wrap (x/16+x)) 1085102592571150095
def MG(x:Int):Int:=IntKind.u64.wrap (x+x/256)
def MF(x:Int):Int:=IntKind.u64.wrap (x+x/65536)
def ME(x:Int):Int:=IntKind.u64.wrap (x+x/4294967296)
def ir(x:Nat):Int:=bits .and .i64 (wrap64 (ME (MF (MG (MH (MI (MJ (x:Int)))))))) 127
theorem uU(x:Nat)(w:World):
  Calls Tryz.prog 282 #[aH x] w (Ru w (aB (ir x))):=by
 go_in
 go_wp2_with fail
 go_ret
 exact⟨rfl,rfl⟩
theorem EI(x:Nat)(w:World):
  Calls Tryz.prog 301 #[aH x] w (Ru w (aB (ir x))):=by
 have H:=aG (uU x w)
 go_in
 go_wp2_with fail
 refine H.mono ?_
 rintro r A ⟨rfl,B⟩
 subst A
 go_wp2_with fail
 go_ret
 exact⟨rfl,rfl⟩
theorem Cn(x:Nat)(w:World):
  Calls Tryz.prog 233 #[aH x] w (Ru w (aB (ir x))):=by
 have H:=aG (uU x w)
 go_in
 go_wp2_with fail
 refine H.mono ?_
 rintro r A ⟨rfl,B⟩
 subst A
 go_wp2_with fail
 go_ret
 exact⟨rfl,rfl⟩
def iv(f:Nat->Nat):Nat->Nat->Option Nat
 |0,v=>if f v=v then some v else none
 |k+1,v=>if f v=v then some v else iv f k (f v)
theorem pB(v R J:Nat)(f:Nat->Nat)(k:FuncId)(L A:Array Value)(w:World)(K:iv f J v=some R)
  (G:∀(y:Nat) (W:World),Bw w W->Ca k (L++#[aH y]++A) W (Rt W (aH (f y))))
  (X:∀args w,(callFunc k args).run Tryz.prog w=.ok (.enter k args) w):
  Calls Tryz.prog 268 #[aH v,.func (.func k) L A] w (Rt w (aH R)):=by
 obtain⟨P,O,S⟩:=bY G K (G v w (Below.refl _ _))
 clear G K
 go_in
 go_wp2_with fail
 refine S.mono ?_
 rintro r V ⟨rfl,C⟩
 replace C:=aG C
 go_wp2_with fail
 go_loopg [0,5] J (fun g a b wr=>∃y:Nat,a=aH y/\b=aH (f y)/\Hid (iv f g y=some R)/\Hid (Bw w wr))
 case atStart=>exact⟨v,rfl,rfl,O,C⟩
 case round=>
  obtain⟨y,rfl,rfl,M,E⟩:=hrel
  by_cases e:f y=y
  ·have F:(((f y:Nat):Int)!=((y:Nat):Int))=false:=by rw[e];simp
   have N:Hid (y=R):=by
    have:=M.out
    show y=R
    cases gk<;>simpa[iv,e]using this
   clear e
   go_wp2_with fail
   go_ret
   exact⟨by rw[<-N.out];rfl,E⟩
  ·have F:(((f y:Nat):Int)!=((y:Nat):Int))=true:=by rw[bne_iff_ne];omega
   obtain⟨D,rfl,H⟩:∃D,gk=D+1/\Hid (iv f D (f y)=some R):=by
    have:=M.out
    cases gk with
    |zero=>simp[iv,e]at this
    |succ D=>exact⟨D,rfl,by show iv f D (f y)=some R;simpa[iv,e]using this⟩
   have Q:=aG (P (f y) wr E)
   clear e
   go_wp2_with fail
   refine Q.mono ?_
   rintro r T ⟨rfl,B⟩
   replace B:=aG B
   go_wp2_with fail
   go_roundg D
   case rel=>exact⟨f y,rfl,rfl,H,E.trans (B.mono E.size)⟩
   all_goals omega
namespace Rp
def isEnter(x:Rp)(f s:Nat):Bool:=(x.isCall s||x.isStart s)&&(x.st s).p.nn==f
def enterings(x:Rp)(f:Nat):Nat:=iG x.spots (x.isEnter f)
def entriesOf(x:Rp)(f often:Nat):Int:=if f=x.main then wrap64 (wrap64 (ir (x.enterings f)+ir (dT (x.enterings f) often))+1)else wrap64 (ir (x.enterings f)+ir (dT (x.enterings f) often))
end Rp
theorem oB(a b:Nat):(((a:Nat):Int)==((b:Nat):Int))=(a==b):=by rw[Bool.eq_iff_iff,beq_iff_eq,beq_iff_eq];omega
theorem mB:Et 300:=enters_of Tryz.func300 (by kernel_rfl) rfl
theorem zq(h:cA w a x)(G:s< x.stmts.length)(K:w.cell? (Ad b 0)=some (aF a))(F:w.cell? (Ad c 0)=some (aB f)):
  Calls Tryz.prog 300 #[aB s,Pt b 0,Pt c 0] w (Rt w (.bool (x.isEnter f s))):=by
 have C:=aG (yI h G)
 have H:=aD F
 have r1:=oB
 clear h
 cases B:(x.isCall s||x.isStart s)
 ·have D:Hid (x.isEnter f s=false):=by show _=_;unfold Rp.isEnter;rw[B];rfl
  rw[B]at C
  go_in
  go_wp2_with fail
  refine C.mono ?_
  rintro r E ⟨rfl,A⟩
  replace A:=aG A
  go_wp2_with fail
  go_ret
  exact⟨by rw[D.out];rfl,A⟩
 ·have D:Hid (x.isEnter f s=((x.st s).p.nn==f)):=by show _=_;unfold Rp.isEnter;rw[B];rfl
  rw[B]at C
  go_in
  go_wp2_with fail
  refine C.mono ?_
  rintro r E ⟨rfl,A⟩
  have J:E.cell? (Ad c 0)=some (aB f):=bc A F
  replace A:=aG A
  go_wp2_with fail
  go_ret
  exact⟨by rw[D.out];rfl,A⟩
theorem BE(h:cA w a x)(sp:cP x)(hg:0< w.heap.size)(O:Tz w)(f A:Nat):
  Calls Tryz.prog 273 #[aF a,aB f,aH A] w (Rt w (aB (x.entriesOf f A))):=by
 obtain⟨g,V,tv,X,Y,H,-⟩:=h.ex
 have e:w.cell? (Ad a 5)=some (aH x.spots):=H.cell 5
 have P:w.cell? (Ad a 0)=some (aB x.main):=H.cell 0
 have S:=H.lt
 obtain⟨E,C⟩:=bM ((w.alloc (.cells #[aF a] 221)).alloc (.cells #[aB f] 281))
 have B:Bw w E:=by rw[C];exact(ba _ _).alloc (by simp) _
 have bP:Boxed E w.heap.size 221 (aF a):=by rw[C];exact(Boxed.new _ _ _).alloc _
 have K:Boxed E (w.heap.size+1) 281 (aB f):=by rw[C];have:=Boxed.new (w.alloc (.cells #[aF a] 221)) 281 (aB f);rw[World.size_alloc]at this;exact this
 have T:Hid (Ca 196 #[aH x.spots,.func (.func 300) #[] #[Pt w.heap.size 0,Pt (w.heap.size+1) 0]] E (Rt E (aH (x.enterings f)))):=
  mK x.spots sp.lt (x.isEnter f) 300 #[] _ E (Nat.lt_of_lt_of_le hg B.size) (O.below B) (fun y W k=>zq ((h.keep B).keep k) (sp.mem y.1 y.2.1 y.2.2) (aL bP k).cell (aL K k).cell) mB
 have r1:=gz
 have r2:=oB
 have N:Hid (∀W,Bw E W->W.cell? (Ad w.heap.size 0)=some (aF a)/\W.cell? (Ad (w.heap.size+1) 0)=some (aB f)/\W.cell? (Ad a 0)=some (aB x.main)):=fun W k=>⟨(aL bP k).cell,(aL K k).cell,by rw[(B.trans (k.mono B.size)).cell (p:=Ad a 0) S];exact P⟩
 obtain⟨D,L⟩:=aN B C
 clear h H sp O bP K B C P
 go_in
 go_wp2_with fail
 rw[<-L.out]
 refine T.mono ?_
 rintro r R ⟨rfl,G⟩
 obtain⟨d,c,b⟩:=N R G
 replace G:=aG G
 go_wp2_with (first|(go_at_call 301;refine(EI _ _).mono ?_;rintro r Q ⟨rfl,Z⟩;subst Q))
 go_quiet (fail)
 by_cases F:f=x.main
 ·have J:(f==x.main)=true:=by simp[F]
  have M:Hid (x.entriesOf f A=wrap64 (wrap64 (ir (x.enterings f)+ir (dT (x.enterings f) A))+1)):=by show _=_;unfold Rp.entriesOf;rw[if_pos F]
  clear F
  go_wp2_with fail
  go_ret
  exact⟨by rw[M.out];rfl,aR (D.trans (G.mono D.size)) _⟩
 ·have J:(f==x.main)=false:=by simp[F]
  have M:Hid (x.entriesOf f A=wrap64 (ir (x.enterings f)+ir (dT (x.enterings f) A))):=by show _=_;unfold Rp.entriesOf;rw[if_neg F]
  clear F
  go_wp2_with fail
  go_ret
  exact⟨by rw[M.out];rfl,aR (D.trans (G.mono D.size)) _⟩
theorem CT(A:Bw W w):(∀b o,b< W.heap.size->w.cell? (Ad b o)=W.cell? (Ad b o))/\(∀b o,b< W.heap.size->w.frozen? (Ad b o)=W.frozen? (Ad b o)):=
 ⟨fun b o h=>A.cell (p:=Ad b o) h,fun b o h=>A.frozen (p:=Ad b o) h⟩
namespace Rp
def twiceRule(x:Rp)(again twice:Nat):Nat:=iG (dB (aW x.begins.length)) (fun f=>decide (1< x.entriesOf f (fV again (x.inOf twice))))
end Rp
theorem oR:Et 272:=enters_of Tryz.func272 (by kernel_rfl) rfl
theorem qB:Et 269:=enters_of Tryz.func269 (by kernel_rfl) rfl
theorem GV(h:cA w a x)(sp:cP x)(hg:0< w.heap.size)(B:Tz w)(f:Nat)(F:w.cell? (Ad b 0)=some (aF a))(E:w.cell? (Ad c 0)=some (aH d)):
  Calls Tryz.prog 272 #[aB f,Pt b 0,Pt c 0] w (Rt w (.bool (decide (1< x.entriesOf f d)))):=by
 have C:=aG (BE h sp hg B f d)
 clear h sp B
 go_in
 go_wp2_with fail
 refine C.mono ?_
 rintro r D ⟨rfl,A⟩
 replace A:=aG A
 go_wp2_with fail
 go_ret
 exact⟨rfl,A⟩
theorem JR(h:cA w a x)(ok:ft x)(sp:cP x)(hg:0< w.heap.size)(L:Tz w)(X:x.begins.length< 64)(y:Nat)(g:w.cell? (Ad b 0)=some (aH d))(R:w.cell? (Ad c 0)=some (aF a)):
  Calls Tryz.prog 269 #[aH y,Pt b 0,Pt c 0] w (Rt w (aH (x.twiceRule d y))):=by
 have r1:=ff
 have l1:=aD g
 have l2:=aD R
 have u:Hid (∀W,Bw w W->Ca 159 #[aF a,aH y] W fun r w'=>r=.returned (aH (x.inOf y))/\Bw W w'/\w'.cell? (Ad b 0)=some (aH d)/\w'.cell? (Ad c 0)=some (aF a)):=fun W k=>(Jg (h.keep k) ok sp (Nat.lt_of_lt_of_le hg k.size) (L.below k) y).mono (fun r w' H=>by
  have V:=k.trans (H.2.mono k.size)
  exact⟨H.1,H.2,bc V g,bc V R⟩)
 obtain⟨bv,v,tv,rv,lv,Q,Y,-⟩:=h.ex
 obtain⟨T,e,rfl⟩:=aI Y
 have n:=Q.lt
 have K:w.cell? (Ad a 2)=some (.slice T x.begins.length e):=Q.cell 2
 have i:Hid (∀W B,Bw w W->W.cell? (Ad B 0)=some (aH (fV d (x.inOf y)))->W.cell? (Ad c 0)=some (aF a)/\W.cell? (Ad a 2)=some (.slice T x.begins.length e)/\Ca 271 #[aH (dB (aW x.begins.length)),.func (.func 272) #[] #[Pt c 0,Pt B 0]] W (Rt w (aH (x.twiceRule d y)))):=fun W B k cB=>by
  have M:W.cell? (Ad c 0)=some (aF a):=bc k R
  refine⟨M,bc k K,?_⟩
  refine(sA (dB (aW x.begins.length)) (jf _) (fun f=>decide (1< x.entriesOf f (fV d (x.inOf y)))) 272 #[] _ W (Nat.lt_of_lt_of_le hg k.size) (L.below k) (fun z W' J=>?_) oR).mono (fun r w' H=>⟨H.1,k.trans (H.2.mono k.size)⟩)
  exact GV ((h.keep k).keep J) sp (Nat.lt_of_lt_of_le (Nat.lt_of_lt_of_le hg k.size) J.size) ((L.below k).below J) z.1 (bc J M) (bc J cB)
 clear h Q Y ok sp L K
 go_in
 go_wp2_with fail
 go_region_held3 (fun w'=>w'.cell? (Ad b 0)=some (aH d)/\w'.cell? (Ad c 0)=some (aF a)) (first|exact⟨Z,K⟩|go_keep|exact⟨by rw[World.cell?_setCell_other _ _ _ _ (by simp<;>omega)];first|exact Z|go_keep,by rw[World.cell?_setCell_other _ _ _ _ (by simp<;>omega)];first|exact K|go_keep⟩) (first|(go_at_call 159;refine(u _ (by first|exact(Below.refl _ _).drew|exact((Below.refl _ _).drew).alloc (Nat.le_refl _) _|exact(ba _ _).drew)).mono ?_;rintro q G ⟨rfl,E,Z,K⟩;have A:=aG E;have O:=E.size;obtain⟨P,s⟩:=CT E;simp at O;clear E))
 ·obtain⟨S,C⟩:=bM (G.alloc (.cells #[aH (fV d (x.inOf y))] 284))
  obtain⟨M,t,F⟩:=i S G.heap.size (by rw[C];exact(⟨A.os,A.tape,A.output,A.size,A.block⟩:Bw w G).alloc A.size _) (by rw[C];exact(Boxed.new _ _ _).cell)
  rw[<-C]
  clear C
  replace F:=aG F
  go_wp2_with (go_at_call 270;refine(mi _ X _).mono ?_;rintro q N ⟨rfl,l⟩;subst N)
  refine F.mono ?_
  rintro q j ⟨rfl,D⟩
  replace D:=aG D
  go_wp2_with fail
  go_ret
  exact⟨rfl,D⟩
 ·obtain⟨S,C⟩:=bM (G.setCell (Ad w.heap.size 0) (aH (fV d (x.inOf y))))
  have m:w.heap.size< G.heap.size:=by omega
  obtain⟨M,t,F⟩:=i S w.heap.size (by rw[C];exact Below.setCell (p:=Ad w.heap.size 0) (⟨A.os,A.tape,A.output,by have:=A.size;simp at this;omega,fun k o=>(A.block k (by simp;omega)).trans (Below.heap_alloc _ _ _ o)⟩:Bw w G) (Nat.le_refl _) _) (by rw[C];exact World.cell?_setCell_same _ _ _ (by rw[P _ _ (by simp)];exact(Boxed.new _ _ _).cell))
  rw[<-C]
  clear C
  replace F:=aG F
  go_wp2_with (go_at_call 270;refine(mi _ X _).mono ?_;rintro q N ⟨rfl,l⟩;subst N)
  refine F.mono ?_
  rintro q j ⟨rfl,D⟩
  replace D:=aG D
  go_wp2_with fail
  go_ret
  exact⟨rfl,D⟩
namespace Rp
def enteredO(x:Rp)(again:Nat):Option Nat:=iv (x.twiceRule again) 70 0
end Rp
theorem BG(h:cA w a x)(ok:ft x)(sp:cP x)(hg:0< w.heap.size)(G:Tz w)(K:x.begins.length< 64)(H:x.enteredO b=some R):
  Calls Tryz.prog 198 #[aF a,aH b] w (Rt w (aH R)):=by
 obtain⟨D,B⟩:=bM ((w.alloc (.cells #[aF a] 221)).alloc (.cells #[aH b] 284))
 have A:Bw w D:=by rw[B];exact(ba _ _).alloc (by simp) _
 have bP:Boxed D w.heap.size 221 (aF a):=by rw[B];exact(Boxed.new _ _ _).alloc _
 have J:Boxed D (w.heap.size+1) 284 (aH b):=by rw[B];have:=Boxed.new (w.alloc (.cells #[aF a] 221)) 284 (aH b);rw[World.size_alloc]at this;exact this
 obtain⟨L,C,F⟩:=bY (pB 0 R 70 (x.twiceRule b) 269 #[] #[Pt (w.heap.size+1) 0,Pt w.heap.size 0] D H (fun y W k=>JR ((h.keep A).keep k) ok sp (Nat.lt_of_lt_of_le (Nat.lt_of_lt_of_le hg A.size) k.size) ((G.below A).below k) K y (aL J k).cell (aL bP k).cell) qB) A B
 clear h ok sp G bP J A B H
 go_in
 go_wp2_with fail
 rw[<-F.out]
 refine L.mono ?_
 rintro r M ⟨rfl,E⟩
 replace E:=aG E
 go_wp2_with fail
 go_ret
 exact⟨rfl,C.trans (E.mono C.size)⟩
theorem cA.start(h:cA w a x)(B:k< x.starts.length):∃g c,w.cell? (Ad a 4)=some (.slice (some (Ad g 0)) x.starts.length c)/\w.cell? (Ad g k)=some (aB (x.starts.getD k 0)):=by
 obtain⟨J,D,tv,E,F,C,H,G,A,-⟩:=h.ex
 obtain⟨g,c,e⟩:=aO A (by omega)
 subst e
 refine⟨g,c,C.cell 4,?_⟩
 rw[A.cellAt _ (by omega)]
 simp[dG,B]
theorem qX:Et 201:=enters_of Tryz.func201 (by kernel_rfl) rfl
theorem oS:Et 197:=enters_of Tryz.func197 (by kernel_rfl) rfl
theorem LB{e v:Nat}(h:cA w a x)(ok:ft x)(J:k< x.starts.length)(D:x.starts.getD k 0=v)(E:v< x.stmts.length)(O:w.cell? (Ad b 0)=some (aF a))(N:w.cell? (Ad d 0)=some (aH f))(M:w.cell? (Ad e 0)=some (aH i)):
  Calls Tryz.prog 201 #[aB k,Pt b 0,Pt d 0,Pt e 0] w (Rt w (.bool (eU f v||eU i (x.st v).fn))):=by
 obtain⟨g,c,L,G⟩:=h.start J
 rw[D]at G
 have K:w.cell? (Ad g (k*1))=some (aB v):=by rw[Nat.mul_one];exact G
 have H:∀j,Hid (Ca 204 #[aF a,aB v] (w.drewN j) fun r w'=>r=.returned (aB (x.st v).fn)/\w'=w.drewN j):=fun j=>jk (h.keep (aR (Below.refl _ _) j)) E
 have F:(x.st v).fn< 64:=by have:=(ok.st v E).1;omega
 have A:v< 64:=by have:=ok.len;omega
 clear h ok D
 cases B:eU f v
 ·have C:∀w,Hid (Ca 202 #[aH f,aB v] w (Ru w (.bool false))):=fun w=>by rw[<-B];exact lJ f v A w
  clear B
  go_in
  go_wp2_with fail
  go_quiet ((first|(go_at_call 204;exact Calls.quiet_of_same (H _).out)|(go_at_call 202;exact Calls.quiet_of_same (C _).out)|(go_at_call 203;exact Calls.quiet_of_same (iR _ _ F _))))
  go_wp2_with fail
  go_ret
  exact⟨by simp,aR (Below.refl _ _) _⟩
 ·have C:∀w,Hid (Ca 202 #[aH f,aB v] w (Ru w (.bool true))):=fun w=>by rw[<-B];exact lJ f v A w
  clear B
  go_in
  go_wp2_with fail
  go_quiet ((first|(go_at_call 204;exact Calls.quiet_of_same (H _).out)|(go_at_call 202;exact Calls.quiet_of_same (C _).out)|(go_at_call 203;exact Calls.quiet_of_same (iR _ _ F _))))
  go_wp2_with fail
  go_ret
  exact⟨by simp,aR (Below.refl _ _) _⟩
theorem jv(A:n< 64)(h:(dB (aW n)).testBit k=true):k< n:=by
 have e:dB (aW n)=2^n-1:=by
  rw[sn A]
  unfold dB
  have D:1<=2^n:=Nat.one_le_two_pow
  have C:2^n<=2^63:=Nat.pow_le_pow_right (by decide) (by omega)
  have B:2^n+(ec-1)=(2^n-1)+ec:=by unfold ec;omega
  rw[B,Nat.add_mod_right,Nat.mod_eq_of_lt]
  unfold ec
  omega
 rw[e,Nat.testBit_two_pow_sub_one]at h
 simpa using h
namespace Rp
def againOf(x:Rp)(s:Nat):Bool:=match dD x.nextOf 70 (x.nextOf s) (x.nextOf s)with|some R=>eU R s|none=>false
def againS(x:Rp):Nat:=iG x.spots x.againOf
def twiceOf(x:Rp)(ent:Nat):Nat:=iG (dB (aW x.starts.length)) (fun k=>eU x.againS (x.starts.getD k 0)||eU ent (x.st (x.starts.getD k 0)).fn)
end Rp
structure mE(x:Rp):Prop where
 ag:∀s,s< 64->x.spots.testBit s=true->x.nextOf s< ec/\∃R,dD x.nextOf 70 (x.nextOf s) (x.nextOf s)=some R/\∀i,i< 64->R.testBit i=true->i< x.stmts.length
 st:∀k,k< x.starts.length->x.starts.getD k 0< x.stmts.length
theorem uN(h:cA w a x)(ok:ft x)(sp:cP x)(ag:mE x)(hg:0< w.heap.size)(o:Tz w)(hn:x.begins.length< 64)(hm:x.starts.length< 64)(hR:x.enteredO x.againS=some b):
  Calls Tryz.prog 139 #[aF a] w (Rt w (aH (x.twiceOf b))):=by
 obtain⟨bv,sv,tv,rv,lv,v,-⟩:=h.ex
 have z:w.cell? (Ad a 5)=some (aH x.spots):=v.cell 5
 have hl:=v.lt
 obtain⟨H,N⟩:=bM (w.alloc (.cells #[aF a] 221))
 have M:Bw w H:=by rw[N];exact ba _ _
 have a0:w.heap.size< H.heap.size:=by rw[N];simp
 have bP:Boxed H w.heap.size 221 (aF a):=by rw[N];exact Boxed.new _ _ _
 have e0:=bP.cell
 have e5:H.cell? (Ad a 5)=some (aH x.spots):=bc M z
 have H1:Hid (∀W,Bw H W->Ca 196 #[aH x.spots,.func (.func 197) #[aF a] #[]] W fun r w'=>r=.returned (aH x.againS)/\Bw W w'/\w'.cell? (Ad w.heap.size 0)=some (aF a)/\w'.cell? (Ad a 5)=some (aH x.spots)):=fun W k=>by
  have e:=M.trans (k.mono M.size)
  refine(mK x.spots sp.lt x.againOf 197 #[aF a] #[] W (Nat.lt_of_lt_of_le hg e.size) (o.below e) (fun y W' Y=>?_) oS).mono (fun r w' K=>⟨K.1,K.2,(aL (aL bP k) K.2).cell,by rw[K.2.cell (p:=Ad a 5) (Nat.lt_of_lt_of_le hl e.size),e.cell (p:=Ad a 5) hl];exact z⟩)
  obtain⟨f,R,O,a3⟩:=ag.ag y.1 y.2.1 y.2.2
  have ea:x.againOf y.1=eU R y.1:=by unfold Rp.againOf;rw[O]
  rw[ea]
  exact uP ((h.keep e).keep Y) ok (Nat.lt_of_lt_of_le (Nat.lt_of_lt_of_le hg e.size) Y.size) ((o.below e).below Y) (sp.mem y.1 y.2.1 y.2.2) ⟨70,O⟩ f a3
 have HT:Hid (∀W D,Bw w W->W.cell? (Ad w.heap.size 0)=some (aF a)->W.cell? (Ad D 0)=some (aH x.againS)->Ca 198 #[aF a,aH x.againS] W fun r w'=>r=.returned (aH b)/\Bw W w'/\w'.cell? (Ad w.heap.size 0)=some (aF a)/\w'.cell? (Ad D 0)=some (aH x.againS)):=fun W D k V T=>(BG (h.keep k) ok sp (Nat.lt_of_lt_of_le hg k.size) (o.below k) hn hR).mono (fun r w' K=>⟨K.1,K.2,bc K.2 V,bc K.2 T⟩)
 have HZ:Hid (∀W D B2,Bw w W->W.cell? (Ad w.heap.size 0)=some (aF a)->W.cell? (Ad D 0)=some (aH x.againS)->W.cell? (Ad B2 0)=some (aH b)->Ca 199 #[aF a] W ((Ru W (aH (dB (aW x.starts.length)))))/\Ca 200 #[aH (dB (aW x.starts.length)),.func (.func 201) #[] #[Pt w.heap.size 0,Pt D 0,Pt B2 0]] W (Rt w (aH (x.twiceOf b)))):=fun W D B2 k V T g3=>by
  refine⟨jG (h.keep k) hm,(ry _ (jf _) (fun j=>eU x.againS (x.starts.getD j 0)||eU b (x.st (x.starts.getD j 0)).fn) 201 #[] _ W (Nat.lt_of_lt_of_le hg k.size) (o.below k) (fun y W' Y=>?_) qX).mono (fun r w' K=>⟨K.1,k.trans (K.2.mono k.size)⟩)⟩
  have hy:=jv hm y.2.2
  exact LB ((h.keep k).keep Y) ok hy rfl (ag.st _ hy) (bc Y V) (bc Y T) (bc Y g3)
 obtain⟨g,s⟩:=aN M N
 clear h v ok sp ag o bP M N hR z
 go_in
 go_wp2_with fail
 rw[<-s.out]
 clear s
 go_region_held3 (fun w'=>w'.cell? (Ad w.heap.size 0)=some (aF a)/\w'.cell? (Ad a 5)=some (aH x.spots)) (first|exact⟨l,e2⟩|go_keep|exact⟨by rw[World.cell?_setCell_other _ _ _ _ (by simp<;>omega)];first|exact l|go_keep,by rw[World.cell?_setCell_other _ _ _ _ (by simp<;>omega)];first|exact e2|go_keep⟩) (first|(go_at_call 196;refine(H1 _ (by first|exact(Below.refl _ _).drew|exact((Below.refl _ _).drew).alloc (Nat.le_refl _) _|exact(ba _ _).drew)).mono ?_;rintro q Q ⟨rfl,S,l,e2⟩;have B:=aG S;have u:=S.size;obtain⟨n,a4⟩:=CT S;simp at u;clear S))
 ·obtain⟨J,A⟩:=bM (Q.alloc (.cells #[aH x.againS] 284))
  obtain⟨D,G⟩:=bM Q.heap.size
  have L:Bw w J:=by rw[A];exact(g.trans (⟨B.os,B.tape,B.output,B.size,fun i hi=>B.block i (by show i< H.heap.size;omega)⟩:Below w.heap.size H Q)).alloc (by have:=B.size;simp at this;omega) _
  have V:J.cell? (Ad w.heap.size 0)=some (aF a):=by rw[A,((Below.refl Q.heap.size Q).alloc (Nat.le_refl _) _).cell (p:=Ad w.heap.size 0) (aD l)];exact l
  have T:J.cell? (Ad D 0)=some (aH x.againS):=by rw[A,G];exact(Boxed.new _ _ _).cell
  rw[<-G]
  clear G
  obtain⟨t,P⟩:=aN (HT J D L V T) L
  rw[<-A]
  clear A L
  go_wp2_with fail
  refine t.mono ?_
  rintro q C ⟨rfl,F,c,Z⟩
  have X:Bw w (C.alloc (.cells #[aH b] 337)):=(P.trans (F.mono P.size)).alloc (Nat.le_trans P.size F.size) _
  have f:(C.alloc (.cells #[aH b] 337)).cell? (Ad w.heap.size 0)=some (aF a):=by rw[((Below.refl C.heap.size C).alloc (Nat.le_refl _) _).cell (p:=Ad w.heap.size 0) (aD c)];exact c
  have O:(C.alloc (.cells #[aH b] 337)).cell? (Ad D 0)=some (aH x.againS):=by rw[((Below.refl C.heap.size C).alloc (Nat.le_refl _) _).cell (p:=Ad D 0) (aD Z)];exact Z
  have d:=aG (HZ _ D C.heap.size X f O (Boxed.new C _ _).cell)
  clear F X O
  go_wp2_with fail
  refine d.1.mono ?_
  rintro q m ⟨rfl,hq⟩
  subst m
  go_wp2_with fail
  refine d.2.mono ?_
  rintro q w3 ⟨rfl,E⟩
  replace E:=aG E
  go_wp2_with fail
  go_ret
  exact⟨rfl,E⟩
 ·obtain⟨J,A⟩:=bM (Q.setCell (Ad H.heap.size 0) (aH x.againS))
  obtain⟨D,G⟩:=bM H.heap.size
  have L:Bw w J:=by rw[A];exact Below.setCell (p:=Ad H.heap.size 0) (g.trans (⟨B.os,B.tape,B.output,by have:=B.size;simp at this;omega,fun i hi=>(B.block i (by simp;omega)).trans (Below.heap_alloc _ _ _ (by omega))⟩:Below w.heap.size H Q)) (by show w.heap.size<=H.heap.size;omega) _
  have V:J.cell? (Ad w.heap.size 0)=some (aF a):=by rw[A,World.cell?_setCell_other _ _ _ _ (by simp<;>omega)];exact l
  have T:J.cell? (Ad D 0)=some (aH x.againS):=by rw[A,G];exact World.cell?_setCell_same _ _ _ (by rw[n _ _ (by simp)];exact(Boxed.new _ _ _).cell)
  rw[<-G]at A⊢
  clear G
  obtain⟨t,P⟩:=aN (HT J D L V T) L
  rw[<-A]
  clear A L
  go_wp2_with fail
  refine t.mono ?_
  rintro q C ⟨rfl,F,c,Z⟩
  have X:Bw w (C.alloc (.cells #[aH b] 337)):=(P.trans (F.mono P.size)).alloc (Nat.le_trans P.size F.size) _
  have f:(C.alloc (.cells #[aH b] 337)).cell? (Ad w.heap.size 0)=some (aF a):=by rw[((Below.refl C.heap.size C).alloc (Nat.le_refl _) _).cell (p:=Ad w.heap.size 0) (aD c)];exact c
  have O:(C.alloc (.cells #[aH b] 337)).cell? (Ad D 0)=some (aH x.againS):=by rw[((Below.refl C.heap.size C).alloc (Nat.le_refl _) _).cell (p:=Ad D 0) (aD Z)];exact Z
  have d:=aG (HZ _ D C.heap.size X f O (Boxed.new C _ _).cell)
  clear F X O
  go_wp2_with fail
  refine d.1.mono ?_
  rintro q m ⟨rfl,hq⟩
  subst m
  go_wp2_with fail
  refine d.2.mono ?_
  rintro q w3 ⟨rfl,E⟩
  replace E:=aG E
  go_wp2_with fail
  go_ret
  exact⟨rfl,E⟩
 ·obtain⟨J,A⟩:=bM (Q.setCell (Ad H.heap.size 0) (aH x.againS))
  obtain⟨D,G⟩:=bM H.heap.size
  have L:Bw w J:=by rw[A];exact Below.setCell (p:=Ad H.heap.size 0) (g.trans (⟨B.os,B.tape,B.output,by have:=B.size;simp at this;omega,fun i hi=>(B.block i (by simp;omega)).trans (Below.heap_alloc _ _ _ (by omega))⟩:Below w.heap.size H Q)) (by show w.heap.size<=H.heap.size;omega) _
  have V:J.cell? (Ad w.heap.size 0)=some (aF a):=by rw[A,World.cell?_setCell_other _ _ _ _ (by simp<;>omega)];exact l
  have T:J.cell? (Ad D 0)=some (aH x.againS):=by rw[A,G];exact World.cell?_setCell_same _ _ _ (by rw[n _ _ (by simp)];exact(Boxed.new _ _ _).cell)
  rw[<-G]at A⊢
  clear G
  obtain⟨t,P⟩:=aN (HT J D L V T) L
  rw[<-A]
  clear A L
  go_wp2_with fail
  refine t.mono ?_
  rintro q C ⟨rfl,F,c,Z⟩
  have X:Bw w (C.alloc (.cells #[aH b] 337)):=(P.trans (F.mono P.size)).alloc (Nat.le_trans P.size F.size) _
  have f:(C.alloc (.cells #[aH b] 337)).cell? (Ad w.heap.size 0)=some (aF a):=by rw[((Below.refl C.heap.size C).alloc (Nat.le_refl _) _).cell (p:=Ad w.heap.size 0) (aD c)];exact c
  have O:(C.alloc (.cells #[aH b] 337)).cell? (Ad D 0)=some (aH x.againS):=by rw[((Below.refl C.heap.size C).alloc (Nat.le_refl _) _).cell (p:=Ad D 0) (aD Z)];exact Z
  have d:=aG (HZ _ D C.heap.size X f O (Boxed.new C _ _).cell)
  clear F X O
  go_wp2_with fail
  refine d.1.mono ?_
  rintro q m ⟨rfl,hq⟩
  subst m
  go_wp2_with fail
  refine d.2.mono ?_
  rintro q w3 ⟨rfl,E⟩
  replace E:=aG E
  go_wp2_with fail
  go_ret
  exact⟨rfl,E⟩
section
attribute [local go_sem] Oper.semAt_some
namespace Rp
def wholeNext(x:Rp)(f:Nat):Nat:=(et (x.inOf (aW f))).foldl (fun a s=>if x.isCall s then fV a (aW (x.st s).p.nn)else a) 0
end Rp
def AK(x:Rp)(f:Nat)(l:List (El (x.inOf (aW f)))):Nat:=l.foldl (fun a s=>if x.isCall s.1 then fV a (aW (x.st s.1).p.nn)else a) 0
theorem AJ(x:Rp)(f:Nat)(l:List (El (x.inOf (aW f))))(s:El (x.inOf (aW f))):AK x f (l++[s])=if x.isCall s.1 then fV (AK x f l) (aW (x.st s.1).p.nn)else AK x f l:=by
 unfold AK;rw[List.foldl_append];rfl
theorem DB(x:Rp)(f:Nat):AK x f (yT _)=x.wholeNext f:=by
 unfold AK Rp.wholeNext
 conv=>rhs;rw[<-dO,List.foldl_map]
theorem qe(sp:cP x){fs:Nat}(A:i< 64)(h:(x.inOf fs).testBit i=true):i< x.stmts.length:=sp.mem i A (jg A h).1
theorem yu{F:Fence}{P:Program}{c:Code}{K:Act->World->Prop}{Q:Exit->Act->World->Prop}{a:Act}(h:c.wpIn F n P (Exit.then K (fun _ _ _=>False)) a w):c.wpIn F n P (Exit.then K Q) a w:=
 Code.wpIn_mono (by
  intro e a w h
  cases e<;>first|exact h|exact h.elim) h
theorem qW:Et 277:=enters_of Tryz.func277 (by kernel_rfl) rfl
theorem Eb(h:cA w a x)(ok:ft x)(sp:cP x)(hg:0< w.heap.size)(hT:Tz w)(hf:f< 64)(m:∀s,s< x.stmts.length->x.isCall s=true->(x.st s).p.nn< 64)(o:w.cell? (Ad b 0)=some (aF a)):
  Ca 277 #[aB f,Pt b 0] w (Rt w (aH (x.wholeNext f))):=by
 refine(callsIn_wide (n:=3)).1 ?_
 refine callsIn_of_wp_marks Tryz.func277 rfl trivial ?_ rfl
 simp only[Tryz.ntmps277,List.size_toArray,List.length_cons,List.length_nil,Nat.reduceAdd,Nat.reduceSub,Array.replicate_succ,Array.replicate_zero,List.push_toArray,List.append_toArray,List.nil_append,List.cons_append]
 have l1:b< w.heap.size:=aD o
 obtain⟨P,F⟩:=bM (w.alloc (.cells #[aH 0] 337))
 have E:Bw w P:=by rw[F];exact ba _ _
 have bC:Boxed P w.heap.size 337 (aH 0):=by rw[F];exact Boxed.new _ _ _
 have e1:P.cell? (Ad b 0)=some (aF a):=bc E o
 have u:Hid (Ca 159 #[aF a,aH (aW f)] P.drew (Rt P (aH (x.inOf (aW f))))):=by
  have k:Bw w P.drew:=E.drew
  exact(Jg (h.keep k) ok sp (Nat.lt_of_lt_of_le hg k.size) (hT.below k) (aW f)).mono (fun r w' O=>⟨O.1,⟨O.2.os,O.2.tape,O.2.output,O.2.size,O.2.block⟩⟩)
 have a2:Tryz.prog.follows .mixedOrders=true:=by kernel_rfl
 obtain⟨t,Z,HH⟩:=bY F E h
 clear F E h
 gi_wp2
 rw[<-t.out]
 refine yu ?_
 gi_region_with_o (first|(refine⟨trivial,?_⟩;gi_at_call 275;refine(callsIn_wide.2 (fC f hf _)).mono ?_;rintro e w' ⟨rfl,y⟩;subst w')|(refine⟨trivial,?_⟩;gi_at_call 159;refine(callsIn_wide.2 u).mono ?_;rintro e H ⟨rfl,Q⟩;have Y:=aG Q;clear Q)|(refine⟨trivial,?_⟩;gi_at_call 144;refine(gJ _ _ _).mono ?_;rintro e w' ⟨rfl,y⟩;subst w'))
 all_goals
  have N:Hid (Bw w H):=Z.trans (Y.mono Z.size)
  have S:=aL bC Y
  have a6:=aG N.size
  obtain⟨T,B⟩:=bM (H.alloc (.cells #[aH (x.inOf (aW f))] 284))
  have bA:Boxed T H.heap.size 284 (aH (x.inOf (aW f))):=by rw[B];exact Boxed.new _ _ _
  have q:Boxed T w.heap.size 337 (aH 0):=by rw[B];exact S.alloc _
  have R:Bw w T:=by rw[B];exact N.alloc N.size _
  have a0:T.heap.size=H.heap.size+1:=by rw[B];exact World.size_alloc ..
  have a1:w.heap.size< H.heap.size:=S.lt
  rw[<-B]
  clear B
  obtain⟨X,a7⟩:=aN R (HH.keep (w':=T))
  clear R
  gi_wp2
  refine wpIn_rangeFunc_ownG rfl (by decide) (gf:=212) (lb:=#[Pt H.heap.size 0]) rfl trivial (enters_of Tryz.func212 (by kernel_rfl) rfl)
   (fI 2 (by decide) H.heap.size w.heap.size (x.inOf (aW f)) (jh _ _) _ (by omega) (by omega) hg bA.cell (hT.below X)) belowK_t (belowK_b (by omega)) (Below.refl _ _) (fun _=>rfl)
   (fun A W=>Boxed W w.heap.size 337 (aH (AK x f A))/\Bw w W)
   (fun _ _ _=>False)
   (OwnFrom.and (Own.from (boxed_own _ _ _) _) (ownFrom_below (Nat.le_refl _) (by omega)))
   (fun _ _ _ _ _ hs _ _=>hs)
   ⟨q,X⟩
   (fun z=>{tmps:=#[aB f,Pt b 0,undef,aH 0,Pt w.heap.size 0,aB z.1,undef,undef,aF a,aB f,aH (aW f),aH (x.inOf (aW f)),.func (.func 212) #[] #[Pt H.heap.size 0],aB z.1,undef,undef,undef,undef,undef,undef,undef,undef,undef,undef,undef,undef],defers:=[]}) ?assign ?body ?done ?stop
  case assign=>
   intro l z W K d
   gi_wp2
   exact d
  case body=>
   rintro l A z W ⟨G,L⟩ a3
   have v:=qe sp z.2.1 z.2.2
   have a5:W.cell? (Ad b 0)=some (aF a):=bc L o
   have HC:=aG (mP (HH.keep L) v)
   have r1:=ff
   gi_wp2
   refine⟨trivial,?_⟩
   refine(CallsIn.inRound l (callsIn_wide.2 HC)).mono ?_
   rintro e W3 ⟨rfl,J⟩
   have i:=aL G J
   have a4:=i.cell
   have hf3:=i.frozen
   obtain⟨C,HB,HN⟩:=bY J L (AJ x f A z)
   have g:=L.size
   have V:=aG i
   clear G J L i HC
   cases hp:x.isCall z.1
   ·have M:Hid (AK x f (A++[z])=AK x f A):=by show _=_;rw[HN.out,hp];rfl
    gi_wp2
    exact⟨bO C,C.mono g,by rw[M.out];exact V,HB.trans (C.mono g)⟩
   ·have M:Hid (AK x f (A++[z])=fV (AK x f A) (aW (x.st z.1).p.nn)):=by show _=_;rw[HN.out,hp];rfl
    have j:=m z.1 v hp
    gi_wp2
    gi_region_with_o (refine⟨trivial,?_⟩;gi_at_call 275;refine(CallsIn.inRound l (callsIn_wide.2 (fC (x.st z.1).p.nn j _))).mono ?_;rintro e w' ⟨rfl,y⟩;subst w')
    all_goals gi_wp2
    all_goals
     refine⟨(bO C).trans (((KeepsOthers.setCell _ _ _).trans (KeepsOthers.drew _)).from _),?_,by rw[M.out];exact V.set _,?_⟩
     ·exact((C.mono g).setCell (p:=Ad w.heap.size 0) (by show _<=w.heap.size;omega) _).drew
     ·exact((HB.trans (C.mono g)).setCell (p:=Ad w.heap.size 0) (by show _<=w.heap.size;omega) _).drew
  case done=>
   rintro D ys W hD rfl ⟨G,L⟩ d
   have hc:=G.cell
   gi_wp2
   refine⟨by simp,.inl ⟨_,_,rfl,run_takeDeferred d,?_⟩⟩
   exact⟨_,results_tmp rfl _ _ _,by rw[DB];rfl,L.trans (belowK_b (w:=w) (Nat.le_refl _) W D _ _ (by omega) d rfl rfl)⟩
  case stop=>
   rintro D c A W _ _ h _
   exact h.elim
end
namespace Rp
def wholeO(x:Rp)(f:Nat):Option Nat:=dD x.wholeNext 70 (aW f) (aW f)
def runByOf(x:Rp)(f:Nat):Nat:=iG (dB (aW x.runs.length)) (fun r=>eU (x.runs.getD r 0) f)
end Rp
theorem Bz(h:cA w a x)(ok:ft x)(sp:cP x)(hg:0< w.heap.size)(G:Tz w)(M:f< 64)(C:∀s,s< x.stmts.length->x.isCall s=true->(x.st s).p.nn< 64)(J:x.wholeO f=some R):
  Calls Tryz.prog 205 #[aF a,aB f] w (Rt w (aH R)):=by
 obtain⟨E,B⟩:=bM (w.alloc (.cells #[aF a] 221))
 have A:Bw w E:=by rw[B];exact ba _ _
 have bP:Boxed E w.heap.size 221 (aF a):=by rw[B];exact Boxed.new _ _ _
 obtain⟨O,N,D,H⟩:=fK (fC f M E) (qI (aW f) R (DD f) x.wholeNext 277 #[] #[Pt w.heap.size 0] E (Nat.lt_of_lt_of_le hg A.size) (G.below A) ⟨70,J⟩ (fun y W L _ k=>Eb ((h.keep A).keep k) ok sp (Nat.lt_of_lt_of_le (Nat.lt_of_lt_of_le hg A.size) k.size) ((G.below A).below k) L C (aL bP k).cell) qW) A B
 clear h ok sp G bP A B J C
 go_in
 go_wp2_with fail
 rw[<-H.out]
 refine O.mono ?_
 rintro r K ⟨rfl,Q⟩
 subst K
 go_wp2_with fail
 refine N.mono ?_
 rintro r P ⟨rfl,F⟩
 replace F:=aG F
 go_wp2_with fail
 go_ret
 exact⟨rfl,D.trans (F.mono D.size)⟩
theorem cA.run(h:cA w a x)(B:k< x.runs.length):∃g c,w.cell? (Ad a 7)=some (.slice (some (Ad g 0)) x.runs.length c)/\w.cell? (Ad g k)=some (aH (x.runs.getD k 0)):=by
 obtain⟨K,D,tv,E,F,C,J,H,G,A,-⟩:=h.ex
 obtain⟨g,c,e⟩:=aO A (by omega)
 subst e
 refine⟨g,c,C.cell 7,?_⟩
 rw[A.cellAt _ (by omega)]
 simp[aX,B]
theorem qZ:Et 285:=enters_of Tryz.func285 (by kernel_rfl) rfl
theorem Ed(h:cA w a x)(C:k< x.runs.length)(D:f< 64)(H:w.cell? (Ad b 0)=some (aF a))(G:w.cell? (Ad d 0)=some (aB f)):
  Calls Tryz.prog 285 #[aB k,Pt b 0,Pt d 0] w (Rt w (.bool (eU (x.runs.getD k 0) f))):=by
 obtain⟨g,c,F,B⟩:=h.run C
 obtain⟨v,A⟩:=bM (x.runs.getD k 0)
 rw[<-A]at B⊢
 have E:w.cell? (Ad g (k*1))=some (aH v):=by rw[Nat.mul_one];exact B
 clear h A
 go_in
 go_wp2_with fail
 go_quiet ((go_at_call 203;exact Calls.quiet_of_same (iR _ _ D _)))
 go_wp2_with fail
 go_ret
 exact⟨rfl,aR (Below.refl _ _) _⟩
theorem GR(h:cA w a x)(hg:0< w.heap.size)(J:Tz w)(O:f< 64)(H:x.runs.length< 64):
  Calls Tryz.prog 235 #[aF a,aB f] w (Rt w (aH (x.runByOf f))):=by
 obtain⟨C,B⟩:=bM ((w.alloc (.cells #[aF a] 221)).alloc (.cells #[aB f] 281))
 have A:Bw w C:=by rw[B];exact(ba _ _).alloc (by simp) _
 have bP:Boxed C w.heap.size 221 (aF a):=by rw[B];exact(Boxed.new _ _ _).alloc _
 have M:Boxed C (w.heap.size+1) 281 (aB f):=by rw[B];have:=Boxed.new (w.alloc (.cells #[aF a] 221)) 281 (aB f);rw[World.size_alloc]at this;exact this
 have L:=h.keep A
 obtain⟨g,X,tv,Y,Z,F,R,Q,P,K,-⟩:=h.ex
 obtain⟨p,c,rfl⟩:=aI K
 have e:Ce w a 7 (.slice p x.runs.length c):=F.cell 7
 have d:=F.lt
 obtain⟨T,S,D,G⟩:=fK (Aq x.runs.length H C) (Bh (dB (aW x.runs.length)) (jf _) (fun r=>eU (x.runs.getD r 0) f) 285 #[] #[Pt w.heap.size 0,Pt (w.heap.size+1) 0] C (Nat.lt_of_lt_of_le hg A.size) (J.below A) (fun y W k=>Ed (L.keep k) (jv H y.2.2) O (aL bP k).cell (aL M k).cell) qZ) A B
 clear h L F R Q P K J bP M A B
 go_in
 go_wp2_with fail
 rw[<-G.out]
 refine T.mono ?_
 rintro r N ⟨rfl,b⟩
 subst N
 go_wp2_with fail
 refine S.mono ?_
 rintro r V ⟨rfl,E⟩
 replace E:=aG E
 go_wp2_with fail
 go_ret
 exact⟨rfl,D.trans (E.mono D.size)⟩
theorem vS:(Tryz.prog.info? 337).map (fun i=>(i.zero,i.size,i.bytes))=some (some (aH 0),1,8):=by kernel_rfl
namespace Rp
def wholeD(x:Rp)(f:Nat):Nat:=(x.wholeO f).getD 0
def runOf(x:Rp)(s:Nat):Nat:=if x.isStart s&&eU x.spots s then x.wholeD (x.st s).p.nn else 0
def runsL(x:Rp):List Nat:=x.wholeD x.main::x.starts.map x.runOf
end Rp
structure vJ(x:Rp):Prop where
 wh:∀f,f< x.begins.length->x.wholeO f=some (x.wholeD f)
 nn:∀s,s< x.stmts.length->(x.isCall s||x.isStart s)=true->(x.st s).p.nn< x.begins.length
 main:x.main< x.begins.length
 len:x.begins.length< 64
structure KW(w wr:World)(v:Value)(x:Rp)(k:Nat):Prop where
 own:wr.ownsRow w.heap.size 337 1 v (k+1) (aX (x.runsL.take (k+1)))
 kp:Below w.heap.size w wr
 le:k<=x.starts.length
theorem JO(h:cA w a x)(ok:ft x)(sp:cP x)(ag:mE x)(R:vJ x)(hg:0< w.heap.size)(hT:Tz w)(hm:x.starts.length< 64):
  Calls Tryz.prog 140 #[aF a] w fun r w'=>∃v,r=.returned v/\w'.ownsRow w.heap.size 337 1 v (x.starts.length+1) (aX x.runsL)/\Bw w w':=by
 obtain⟨i0,hi,X,V,T⟩:=info_parts vS
 obtain⟨bv,sv,tv,rv,lv,y,h2,h3,h4,-⟩:=h.ex
 obtain⟨p,c,rfl⟩:=aI h4
 have c0:Ce w a 0 (aB x.main):=y.cell 0
 have c4:Ce w a 4 (.slice p x.starts.length c):=y.cell 4
 have c5:Ce w a 5 (aH x.spots):=y.cell 5
 have hl:=y.lt
 have H4:=aG h4
 have q:∀s,s< x.stmts.length->x.isCall s=true->(x.st s).p.nn< 64:=fun s Q hc=>by have:=R.nn s Q (by rw[hc];rfl);have:=R.len;omega
 have HW:Hid (∀W f,Bw w W->f< x.begins.length->Ca 205 #[aF a,aB f] W (Rt W (aH (x.wholeD f)))):=fun W f k hf=>Bz (h.keep k) ok sp (Nat.lt_of_lt_of_le hg k.size) (hT.below k) (by have:=R.len;omega) q (R.wh f hf)
 have HS:Hid (∀W s,Bw w W->s< x.stmts.length->Ca 206 #[aF a,aB s] W (Rt W (.tuple #[aB (x.st s).p.nn,.bool (x.isStart s)]))):=fun W s k Q=>pI (h.keep k) Q
 obtain⟨a4,a6,a5,HM⟩:=fK R ag ok (HW w x.main (Below.refl _ _) R.main)
 clear h y h2 h3 h4 ok sp ag R hT q
 go_in
 go_wp2_with fail
 refine HM.mono ?_
 rintro r w1 ⟨rfl,O⟩
 have d4:w1.cell? (Ad a 4)=some (.slice p x.starts.length c):=bc O c4
 have a0:a< w1.heap.size:=Nat.lt_of_lt_of_le hl O.size
 have b:=aG O
 clear O c0 c4
 go_wp2_with fail
 clear d4 a0
 go_loopw [3,21] (fun v i wr=>∃k:Nat,i=aB k/\Hid (KW w wr v x k)) (fun _ i _=>x.starts.length-(intOf i).toNat)
 case atStart=>exact⟨0,rfl,jJ _ _ (by simp[aX,Rp.runsL]) (by simp[aX,Rp.runsL]) b.size,b.alloc b.size _,Nat.zero_le _⟩
 case round=>
  obtain⟨k,rfl,E⟩:=hrel
  have a2:=E.le
  by_cases M:k=x.starts.length
  ·have a1:¬((k:Int)< (x.starts.length:Int)):=by omega
   have HF:Hid (wr.ownsRow w.heap.size 337 1 u3 (x.starts.length+1) (aX x.runsL)):=by
    have:=E.own
    rw[M,List.take_of_length_le (by simp[Rp.runsL])]at this
    exact this
   clear M a2
   go_wp2_with fail
   go_ret
   exact⟨_,rfl,HF,E.kp⟩
  ·have L:k< x.starts.length:=by omega
   have a1:((k:Int)< (x.starts.length:Int)):=by omega
   clear M
   obtain⟨d,rfl⟩:∃d,p=some (Ad d 0):=by
    obtain⟨g,c,e⟩:=aO H4 (by omega)
    cases e;exact⟨g,rfl⟩
   obtain⟨s,Q⟩:=bM (x.starts.getD k 0)
   have G:wr.cell? (Ad d k)=some (aB s):=by
    rw[E.out.kp.cell (p:=Ad d k) (H4.out.lt d rfl).2,H4.out.cellAt _ (by omega),Q]
    simp[dG,L]
   have N:wr.cell? (Ad d (k*1))=some (aB s):=by rw[Nat.mul_one];exact G
   have n:s< x.stmts.length:=by rw[Q];exact a6.st k L
   have o:s< 64:=by have:=a5.len;omega
   have Z:Hid (aX (x.runsL.take (k+1+1))=aX (x.runsL.take (k+1))++[aH (x.runOf s:Nat)]):=by
    show _=_
    have e:x.runsL[k+1]?=some (x.runOf s):=by
     rw[Q];unfold Rp.runsL;rw[List.getElem?_cons_succ,List.getElem?_map,List.getElem?_eq_getElem L];simp[L]
    rw[List.take_add_one,e];simp[aX]
   have z:=aG (HS wr s E.kp n)
   clear Q
   go_wp2_with fail
   refine z.mono ?_
   rintro r F ⟨rfl,Y⟩
   have d5:F.cell? (Ad a 5)=some (aH x.spots):=by rw[Y.cell (p:=Ad a 5) (Nat.lt_of_lt_of_le hl E.out.kp.size),E.out.kp.cell (p:=Ad a 5) hl];exact c5
   have J:=aG Y
   clear Y z G N
   cases K:x.isStart s
   ·have D:Hid (Bw wr F):=J
    have H:Hid (0=x.runOf s):=by show _=_;unfold Rp.runOf;rw[K];rfl
    have C:=aP E.own D
    have m:=Nat.le_trans E.kp.size D.size
    go_wp2_with (at_builtin;refine bE rfl _ _ 285 rfl w.heap.size 337 i0 (aH 0) 1 8 Tryz.underlying285 hi X V T rfl (by decide) _ _ _ rfl (C.alloc _) (Ad F.heap.size 0) 1 1 [aH (0:Nat)] rfl rfl (cF _ _ _ _ (by simp)) (by intro u P;simp at P;subst P;rfl) (by decide) (by unfold maxLen;omega) (by omega) (by simp;omega) ?_;intro l j B A _)
    have HN:Hid (KW w j l x (k+1)):=by
     refine⟨by rw[Z.out,<-H.out];exact B,?_,by omega⟩
     exact aC.to_below ((aC.of_below (S:=fun _=>False) (E.kp.trans (D.mono E.kp.size))).trans' (((aC.refl (fun i=>u3.ownBlock=some i) F).alloc _).grown A (fun k M=>.inl M)) (fun i e=>.inr (C.lt i e).1))
    clear B A C
    go_wp2_with fail
    go_roundw
    case rel=>exact⟨k+1,by go_num,HN⟩
    case measure=>simp[intOf];omega
   ·have HH:Hid (Ca 202 #[aH x.spots,aB s] F (Ru F (.bool (eU x.spots s)))):=lJ x.spots s o F
    cases hh:eU x.spots s
    ·rw[hh]at HH
     have D:Hid (Bw wr F):=J
     go_wp2_with fail
     refine HH.mono ?_
     rintro r wq ⟨rfl,hq⟩
     subst wq
     have H:Hid (0=x.runOf s):=by show _=_;unfold Rp.runOf;rw[K,hh];rfl
     have C:=aP E.own D
     have m:=Nat.le_trans E.kp.size D.size
     go_wp2_with (at_builtin;refine bE rfl _ _ 285 rfl w.heap.size 337 i0 (aH 0) 1 8 Tryz.underlying285 hi X V T rfl (by decide) _ _ _ rfl (C.alloc _) (Ad F.heap.size 0) 1 1 [aH (0:Nat)] rfl rfl (cF _ _ _ _ (by simp)) (by intro u P;simp at P;subst P;rfl) (by decide) (by unfold maxLen;omega) (by omega) (by simp;omega) ?_;intro l j B A _)
     have HN:Hid (KW w j l x (k+1)):=by
      refine⟨by rw[Z.out,<-H.out];exact B,?_,by omega⟩
      exact aC.to_below ((aC.of_below (S:=fun _=>False) (E.kp.trans (D.mono E.kp.size))).trans' (((aC.refl (fun i=>u3.ownBlock=some i) F).alloc _).grown A (fun k M=>.inl M)) (fun i e=>.inr (C.lt i e).1))
     clear B A C
     go_wp2_with fail
     go_roundw
     case rel=>exact⟨k+1,by go_num,HN⟩
     case measure=>simp[intOf];omega
    ·rw[hh]at HH
     have a3:=aG (HW F (x.st s).p.nn (E.kp.trans (J.mono E.kp.size)) (a4.nn s n (by rw[K,Bool.or_true])))
     go_wp2_with fail
     refine HH.mono ?_
     rintro r wq ⟨rfl,hq⟩
     subst wq
     go_wp2_with fail
     refine a3.mono ?_
     rintro r w3 ⟨rfl,t⟩
     have D:Hid (Bw wr w3):=J.trans (t.mono J.size)
     clear t
     have H:Hid (x.wholeD (x.st s).p.nn=x.runOf s):=by show _=_;unfold Rp.runOf;rw[K,hh];rfl
     have C:=aP E.own D
     have m:=Nat.le_trans E.kp.size D.size
     go_wp2_with (at_builtin;refine bE rfl _ _ 285 rfl w.heap.size 337 i0 (aH 0) 1 8 Tryz.underlying285 hi X V T rfl (by decide) _ _ _ rfl (C.alloc _) (Ad w3.heap.size 0) 1 1 [aH (x.wholeD (x.st s).p.nn:Nat)] rfl rfl (cF _ _ _ _ (by simp)) (by intro u P;simp at P;subst P;rfl) (by decide) (by unfold maxLen;omega) (by omega) (by simp;omega) ?_;intro l j B A _)
     have HN:Hid (KW w j l x (k+1)):=by
      refine⟨by rw[Z.out,<-H.out];exact B,?_,by omega⟩
      exact aC.to_below ((aC.of_below (S:=fun _=>False) (E.kp.trans (D.mono E.kp.size))).trans' (((aC.refl (fun i=>u3.ownBlock=some i) w3).alloc _).grown A (fun k M=>.inl M)) (fun i e=>.inr (C.lt i e).1))
     clear B A C
     go_wp2_with fail
     go_roundw
     case rel=>exact⟨k+1,by go_num,HN⟩
     case measure=>simp[intOf];omega
namespace Rp
def withinOf(x:Rp)(k:Nat):Nat:=iG (dB (aW x.starts.length)) (fun j=>eU (x.inOf (x.runs.getD (k+1) 0)) (x.starts.getD j 0))
end Rp
theorem JP(k:Nat)(A:k<=1000)(w:World):
  Calls Tryz.prog 208 #[aB k] w (Ru w (aB ((k+1:Nat):Int))):=by
 go_in
 go_wp2_with fail
 go_ret
 exact⟨by go_num,rfl⟩
theorem qD:Et 209:=enters_of Tryz.func209 (by kernel_rfl) rfl
theorem ro:Et 207:=enters_of Tryz.func207 (by kernel_rfl) rfl
theorem BH{sp:Nat}(h:cA w a x)(D:k< x.starts.length)(B:x.starts.getD k 0< 64)(H:w.cell? (Ad b 0)=some (aH sp))(G:w.cell? (Ad d 0)=some (aF a)):
  Calls Tryz.prog 209 #[aB k,Pt b 0,Pt d 0] w (Rt w (.bool (eU sp (x.starts.getD k 0)))):=by
 obtain⟨g,c,F,C⟩:=h.start D
 obtain⟨v,A⟩:=bM (x.starts.getD k 0)
 rw[<-A]at C B⊢
 have E:w.cell? (Ad g (k*1))=some (aB v):=by rw[Nat.mul_one];exact C
 clear h A
 go_in
 go_wp2_with fail
 go_quiet ((go_at_call 202;exact Calls.quiet_of_same (lJ _ _ B _)))
 go_wp2_with fail
 go_ret
 exact⟨rfl,aR (Below.refl _ _) _⟩
theorem Ef(h:cA w a x)(ok:ft x)(sp:cP x)(n:mE x)(hg:0< w.heap.size)(V:Tz w)(f:x.starts.length< 64)(S:k+1< x.runs.length)(hr:x.runs.length< 64)(P:w.cell? (Ad b 0)=some (aF a)):
  Calls Tryz.prog 207 #[aB k,Pt b 0] w (Rt w (aH (x.withinOf k))):=by
 have l1:=aD P
 obtain⟨g,c,X,N⟩:=h.run S
 obtain⟨fs,H⟩:=bM (x.runs.getD (k+1) 0)
 rw[<-H]at N
 have z:w.cell? (Ad g ((k+1)*1))=some (aH fs):=by rw[Nat.mul_one];exact N
 have l7:=aD X
 have l8:=aD N
 have HI:Hid (∀W,Bw w W->Ca 159 #[aF a,aH fs] W fun r w'=>r=.returned (aH (x.inOf fs))/\Bw W w'/\w'.cell? (Ad b 0)=some (aF a)/\w'.cell? (Ad a 7)=some (.slice (some (Ad g 0)) x.runs.length c)/\w'.cell? (Ad g (k+1))=some (aH fs)):=fun W M=>(Jg (h.keep M) ok sp (Nat.lt_of_lt_of_le hg M.size) (V.below M) fs).mono (fun r w' K=>by
  have E:=M.trans (K.2.mono M.size)
  exact⟨K.1,K.2,bc E P,bc E X,bc E N⟩)
 have Z:Hid (∀W,Ca 208 #[aB k] W (Ru W (aB ((k+1:Nat):Int)))):=fun W=>JP k (by omega) W
 have o:Hid (∀W B,Bw w W->W.cell? (Ad B 0)=some (aH (x.inOf fs))->W.cell? (Ad b 0)=some (aF a)/\Ca 199 #[aF a] W ((Ru W (aH (dB (aW x.starts.length)))))/\Ca 200 #[aH (dB (aW x.starts.length)),.func (.func 209) #[] #[Pt B 0,Pt b 0]] W (Rt w (aH (x.withinOf k)))):=fun W B E cB=>by
  have O:W.cell? (Ad b 0)=some (aF a):=bc E P
  have er:x.withinOf k=iG (dB (aW x.starts.length)) (fun j=>eU (x.inOf fs) (x.starts.getD j 0)):=by unfold Rp.withinOf;rw[<-H]
  rw[er]
  refine⟨O,jG (h.keep E) f,(ry _ (jf _) (fun j=>eU (x.inOf fs) (x.starts.getD j 0)) 209 #[] _ W (Nat.lt_of_lt_of_le hg E.size) (V.below E) (fun y W' Q=>?_) qD).mono ?_⟩
  ·have d:=jv f y.2.2
   exact BH ((h.keep E).keep Q) d (by have:=n.st _ d;have:=ok.len;omega) (bc Q cB) (bc Q O)
  ·exact fun r w' K=>⟨K.1,E.trans (K.2.mono E.size)⟩
 have u:((k+1:Nat):Int)< (x.runs.length:Int):=by omega
 have y1:(0:Int)<=(k:Int)+1:=by omega
 have y2:(k:Int)+1< (x.runs.length:Int):=by omega
 clear h ok sp n V H
 go_in
 go_wp2_with fail
 go_region_held3 (fun w'=>w'.cell? (Ad b 0)=some (aF a)/\w'.cell? (Ad a 7)=some (.slice (some (Ad g 0)) x.runs.length c)/\w'.cell? (Ad g (k+1))=some (aH fs)) (first|exact⟨m,l,i⟩|exact⟨P,X,N⟩|go_keep|exact⟨by rw[World.cell?_setCell_other _ _ _ _ (by simp<;>omega)];first|exact m|go_keep,by rw[World.cell?_setCell_other _ _ _ _ (by simp<;>omega)];first|exact l|go_keep,by rw[World.cell?_setCell_other _ _ _ _ (by simp<;>omega)];first|exact i|go_keep⟩) (first|(go_at_call 208;refine(Z _).mono ?_;rintro q L ⟨rfl,e⟩;subst L)|(go_at_call 159;refine(HI _ (by first|exact(Below.refl _ _).drew|exact((Below.refl _ _).drew).alloc (Nat.le_refl _) _|exact(ba _ _).drew)).mono ?_;rintro q J ⟨rfl,F,m,l,i⟩;have A:=aG F;have R:=F.size;obtain⟨T,v⟩:=CT F;simp at R;clear F))
 ·obtain⟨Y,C⟩:=bM (J.alloc (.cells #[aH (x.inOf fs)] 284))
  obtain⟨O,G⟩:=o Y J.heap.size (by rw[C];exact(⟨A.os,A.tape,A.output,A.size,A.block⟩:Bw w J).alloc A.size _) (by rw[C];exact(Boxed.new _ _ _).cell)
  rw[<-C]
  clear C
  replace G:=aG G
  go_wp2_with fail
  refine G.1.mono ?_
  rintro q L ⟨rfl,e⟩
  subst L
  go_wp2_with fail
  refine G.2.mono ?_
  rintro q s ⟨rfl,D⟩
  replace D:=aG D
  go_wp2_with fail
  go_ret
  exact⟨rfl,D⟩
 all_goals
  obtain⟨Y,C⟩:=bM (J.setCell (Ad w.heap.size 0) (aH (x.inOf fs)))
  have t:w.heap.size< J.heap.size:=by omega
  obtain⟨O,G⟩:=o Y w.heap.size (by rw[C];exact Below.setCell (p:=Ad w.heap.size 0) (⟨A.os,A.tape,A.output,by have:=A.size;simp at this;omega,fun k S=>(A.block k (by simp;omega)).trans (Below.heap_alloc _ _ _ S)⟩:Bw w J) (Nat.le_refl _) _) (by rw[C];exact World.cell?_setCell_same _ _ _ (by rw[T _ _ (by simp)];exact(Boxed.new _ _ _).cell))
  rw[<-C]
  clear C
  replace G:=aG G
  go_wp2_with fail
  refine G.1.mono ?_
  rintro q L ⟨rfl,e⟩
  subst L
  go_wp2_with fail
  refine G.2.mono ?_
  rintro q s ⟨rfl,D⟩
  replace D:=aG D
  go_wp2_with fail
  go_ret
  exact⟨rfl,D⟩
end Go.Proofs.YtajfbbldaiaolaaGreatDoor
