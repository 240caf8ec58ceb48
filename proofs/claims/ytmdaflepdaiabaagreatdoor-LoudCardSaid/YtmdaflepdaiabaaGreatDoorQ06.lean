import Derived.Deep.Cut
import Derived.Deep.LoopGhost
import Derived.Test.YtmdaflepdaiabaaGreatDoorQ05
set_option linter.unusedSimpArgs false
set_option linter.unusedVariables false
namespace Go.Proofs.YtmdaflepdaiabaaGreatDoor
section
set_option maxRecDepth 100000
set_option maxHeartbeats 1000000
open Go.RowKit Go.Maps
theorem dc.move{w w':World}{b n:Nat}{f:aj→Option (Nat×Nat)}(h:dc w b n f)(e:w'.heap[b]?=w.heap[b]?):dc w' b n f:=by
 obtain⟨D,⟨es,ck,h1,h2⟩,h3⟩:=h
 exact⟨D,⟨es,ck,by rw[e];exact h1,h2⟩,h3⟩
theorem dF.move{w w':World}{b c:Nat}{f:aj→Option Nat}(h:dF w b c f)(e:w'.heap[b]?=w.heap[b]?):dF w' b c f:=by
 obtain⟨D,⟨es,ck,h1,h2⟩,h3⟩:=h
 exact⟨D,⟨es,ck,by rw[e];exact h1,h2⟩,h3⟩
theorem dc.lt{w:World}{b n:Nat}{f:aj→Option (Nat×Nat)}(h:dc w b n f):b< w.heap.size:=by obtain⟨D,h1,_⟩:=h;exact h1.lt
theorem dF.lt{w:World}{b c:Nat}{f:aj→Option Nat}(h:dF w b c f):b< w.heap.size:=by obtain⟨D,h1,_⟩:=h;exact h1.lt
theorem dc.kept{S:Nat→Prop}{w w':World}{b n:Nat}{f:aj→Option (Nat×Nat)}(h:dc w b n f)(k:ae S w w')(hs:¬S b):dc w' b n f:=h.move (k.block b h.lt hs)
theorem dF.kept{S:Nat→Prop}{w w':World}{b c:Nat}{f:aj→Option Nat}(h:dF w b c f)(k:ae S w w')(hs:¬S b):dF w' b c f:=h.move (k.block b h.lt hs)
abbrev vc(x:Nat×Nat):Obj:=.cells #[.int .i64 x.1,.int .i64 x.2] 129
theorem ms{w:World}{bn bm n bf b o a:Nat}{f:aj→Option (Nat×Nat)}{t:ByteArray}{x:Nat×Nat}(hn:NM w bn bm n f)(h:iH w b o t a)(hf:f t.data.toList=some x):
  Calls Tryz.prog 84 #[.pointer (some ⟨bn,0,none⟩),.pointer (some ⟨bf,0,none⟩),.pointer (some ⟨b,o,none⟩)] w fun r w'=>cc w' r 9 a∧Below w.heap.size w w':=by
 have hl:=(hn.th.move (w':=w.drew) rfl).look t h.sz
 have hl2:=((hn.th.kept (ae.of_below (S:=fun _=>False) ((Below.refl _ _).alloc (Nat.le_refl _) (.cells #[.int .i64 0,.int .i64 0] 129))) (fun e=>e)).move (w':=(w.alloc (.cells #[.int .i64 0,.int .i64 0] 129)).drew) rfl).look t h.sz
 rw[hf]at hl hl2
 simp only[Option.getD_some,Option.isSome_some]at hl hl2
 unfold dJ at hl hl2
 have hbn:bn< w.heap.size:=ah (a:=⟨bn,1,none⟩) hn.c1
 have t0:=h.t0
 have t1:=h.t1
 have c1:=hn.c1
 have hb:b< w.heap.size:=ah t0
 clear hn h hf
 go_enter Tryz.func84,Tryz.ntmps84
 go_wp2_with fail
 go_region
 all_goals
  go_wp2_with fail
  refine(bo 9 a _).mono ?_
  rintro e w2 ⟨⟨b2,rfl,h3⟩,h4⟩
  replace h3:=aa h3
  replace h4:=aa h4
  go_wp2_with fail
  refine⟨rfl,⟨b2,rfl,h3.out⟩,?_⟩
  have h5:=((Below.refl w.heap.size w).alloc (Nat.le_refl _) (vc x)).drew
  exact h5.trans (h4.out.mono (by simp))
abbrev jr(w:World):World:=(w.alloc (.cells #[.int .i64 0,.int .i64 0] 129)).drew.drew
theorem uj{w:World}{bn bm n bf bl c b o a m:Nat}{f:aj→Option (Nat×Nat)}{g:aj→Option Nat}{t:ByteArray}(hn:NM w bn bm n f)(h:iH w b o t a)(hf:f t.data.toList=none)(hc:w.cell? ⟨bf,1,none⟩=some (.map (some bl)))(hl:dF w bl c g)(hg:g t.data.toList=some m):
  Calls Tryz.prog 84 #[.pointer (some ⟨bn,0,none⟩),.pointer (some ⟨bf,0,none⟩),.pointer (some ⟨b,o,none⟩)] w fun r w'=>r=.returned (.tuple #[])∧w'=jr (w.setCell ⟨b,o+2,none⟩ (.int .i64 m)):=by
 have e1:=(hn.th.move (w':=w.drew) rfl).look t h.sz
 have k1:=ae.of_below (S:=fun _=>False) ((Below.refl w.heap.size w).alloc (Nat.le_refl _) (.cells #[.int .i64 0,.int .i64 0] 129))
 have e2:=((hn.th.kept k1 (fun e=>e)).move (w':=(w.alloc (.cells #[.int .i64 0,.int .i64 0] 129)).drew) rfl).look t h.sz
 have e3:=((hl.kept k1 (fun e=>e)).move (w':=(w.alloc (.cells #[.int .i64 0,.int .i64 0] 129)).drew.drew) rfl).look t h.sz
 rw[hf]at e1 e2
 rw[hg]at e3
 simp only[Option.getD_none,Option.isSome_none,Option.getD_some,Option.isSome_some]at e1 e2 e3
 unfold dJ at e1 e2
 have hbn:bn< w.heap.size:=ah (a:=⟨bn,1,none⟩) hn.c1
 have hbf:bf< w.heap.size:=ah (a:=⟨bf,1,none⟩) hc
 have t0:=h.t0
 have t1:=h.t1
 obtain⟨m2,t2⟩:=h.t2
 have tf:=h.fz
 have c1:=hn.c1
 have hb:b< w.heap.size:=ah t0
 clear hn h hf hl hg k1
 go_enter Tryz.func84,Tryz.ntmps84
 go_wp2_with fail
 go_region
 all_goals
  go_wp2_with fail
  go_region
  all_goals
   go_wp2_with fail
   go_end0
   exact⟨rfl,rfl⟩
theorem rV{w:World}{bn bm n bf bl b o a:Nat}{f:aj→Option (Nat×Nat)}{g:aj→Option Nat}{t:ByteArray}(hn:NM w bn bm n f)(h:iH w b o t a)(hf:f t.data.toList=none)(hc:w.cell? ⟨bf,1,none⟩=some (.map (some bl)))(hl:dF w bl 6 g)(hg:g t.data.toList=none):
  Calls Tryz.prog 84 #[.pointer (some ⟨bn,0,none⟩),.pointer (some ⟨bf,0,none⟩),.pointer (some ⟨b,o,none⟩)] w fun r w'=>cc w' r 8 a∧Below w.heap.size w w':=by
 have e1:=(hn.th.move (w':=w.drew) rfl).look t h.sz
 have k1:=ae.of_below (S:=fun _=>False) ((Below.refl w.heap.size w).alloc (Nat.le_refl _) (.cells #[.int .i64 0,.int .i64 0] 129))
 have e2:=((hn.th.kept k1 (fun e=>e)).move (w':=(w.alloc (.cells #[.int .i64 0,.int .i64 0] 129)).drew) rfl).look t h.sz
 have e3:=((hl.kept k1 (fun e=>e)).move (w':=(w.alloc (.cells #[.int .i64 0,.int .i64 0] 129)).drew.drew) rfl).look t h.sz
 have e4:=((hl.kept k1 (fun e=>e)).move (w':=(w.alloc (.cells #[.int .i64 0,.int .i64 0] 129)).drew.drew) rfl).len 3
 rw[hf]at e1 e2
 rw[hg]at e3
 simp only[Option.getD_none,Option.isSome_none]at e1 e2 e3
 unfold dJ at e1 e2
 have hbn:bn< w.heap.size:=ah (a:=⟨bn,1,none⟩) hn.c1
 have hbf:bf< w.heap.size:=ah (a:=⟨bf,1,none⟩) hc
 have t0:=h.t0
 have t1:=h.t1
 have c1:=hn.c1
 have hb:b< w.heap.size:=ah t0
 clear hn h hf hl hg k1
 go_enter Tryz.func84,Tryz.ntmps84
 go_wp2_with fail
 go_region
 all_goals
  go_wp2_with fail
  go_region
  all_goals
   go_wp2_with fail
   refine(bo 8 a _).mono ?_
   rintro e w2 ⟨⟨b2,rfl,h3⟩,h4⟩
   replace h3:=aa h3
   replace h4:=aa h4
   go_wp2_with fail
   refine⟨rfl,⟨b2,rfl,h3.out⟩,?_⟩
   have h5:=((Below.refl w.heap.size w).alloc (Nat.le_refl _) (.cells #[.int .i64 0,.int .i64 0] 129)).drew.drew
   exact h5.trans (h4.out.mono (by simp))
theorem uk{w:World}{bn bm n bf bl c b o a:Nat}{f:aj→Option (Nat×Nat)}{g:aj→Option Nat}{t:ByteArray}(hn:NM w bn bm n f)(h:iH w b o t a)(hf:f t.data.toList=none)(hc:w.cell? ⟨bf,1,none⟩=some (.map (some bl)))(hl:dF w bl c g)(hg:g t.data.toList=none)(hc6:c≤5):
  Calls Tryz.prog 84 #[.pointer (some ⟨bn,0,none⟩),.pointer (some ⟨bf,0,none⟩),.pointer (some ⟨b,o,none⟩)] w fun r w'=>r=.returned (.tuple #[])∧∃w1,dF w1 bl (c+1) (fun s=>if s=t.data.toList then some c else g s)∧(jr w).drew.mapTurned w1 bl∧w'=w1.setCell ⟨b,o+2,none⟩ (.int .i64 c):=by
 have e1:=(hn.th.move (w':=w.drew) rfl).look t h.sz
 have k1:=ae.of_below (S:=fun _=>False) ((Below.refl w.heap.size w).alloc (Nat.le_refl _) (.cells #[.int .i64 0,.int .i64 0] 129))
 have e2:=((hn.th.kept k1 (fun e=>e)).move (w':=(w.alloc (.cells #[.int .i64 0,.int .i64 0] 129)).drew) rfl).look t h.sz
 have e3:=((hl.kept k1 (fun e=>e)).move (w':=(w.alloc (.cells #[.int .i64 0,.int .i64 0] 129)).drew.drew) rfl).look t h.sz
 have e4:=((hl.kept k1 (fun e=>e)).move (w':=(w.alloc (.cells #[.int .i64 0,.int .i64 0] 129)).drew.drew) rfl).len 3
 obtain⟨w9,e5,h9,ht9⟩:=((hl.kept k1 (fun e=>e)).move (w':=(w.alloc (.cells #[.int .i64 0,.int .i64 0] 129)).drew.drew.drew) rfl).add t h.sz (by omega) hg c (by omega)
 rw[hf]at e1 e2
 rw[hg]at e3
 simp only[Option.getD_none,Option.isSome_none]at e1 e2 e3
 unfold dJ at e1 e2
 have hbn:bn< w.heap.size:=ah (a:=⟨bn,1,none⟩) hn.c1
 have hbf:bf< w.heap.size:=ah (a:=⟨bf,1,none⟩) hc
 have t0:=h.t0
 have t1:=h.t1
 have c1:=hn.c1
 have hb:b< w.heap.size:=ah t0
 have hcb:((c:Int)==6)=false:=by rw[beq_eq_false_iff_ne];omega
 have hbl:b≠bl:=fun e=>by
  subst e
  obtain⟨D,⟨es,ck,hm,_⟩,_⟩:=hl
  rw[World.cell?]at t0
  simp[hm]at t0
 obtain⟨m2,t2⟩:=h.t2
 have k9:ae (fun i=>i=bl) w w9:=((((ae.refl (fun i=>i=bl) w).alloc (.cells #[.int .i64 0,.int .i64 0] 129)).drew.drew).drew).grown ht9.grown (fun k hk=>by cases hk;exact Or.inl rfl)
 have u2:w9.cell? ⟨b,o+2,none⟩=some (.int .i64 m2):=by rw[k9.cell (p:=⟨b,o+2,none⟩) hb hbl];exact t2
 have uf:w9.frozen? ⟨b,o+2,none⟩=false:=by rw[k9.frozen (p:=⟨b,o+2,none⟩) hb hbl];exact h.fz
 replace h9:=aa h9
 replace ht9:=aa ht9
 clear hn h hf hl hg k1 k9 t2
 go_enter Tryz.func84,Tryz.ntmps84
 go_wp2_with fail
 go_region
 all_goals
  go_wp2_with fail
  go_region
  all_goals
   go_wp2_with fail
   go_region
   all_goals
    go_wp2_with fail
    go_end0
    exact⟨rfl,w9,h9.out,ht9.out,rfl⟩
end
section
set_option maxRecDepth 100000
set_option maxHeartbeats 1000000
open Go.RowKit Go.Maps
theorem fA{w:World}{bs kind op:Nat}(c2:w.cell? ⟨bs,2,none⟩=some (.int .i64 kind))(c6:w.cell? ⟨bs,6,none⟩=some (.int .i64 op)):
  Calls Tryz.prog 82 #[.pointer (some ⟨bs,0,none⟩)] w fun r w'=>r=.returned (.bool (kind==1&&op==0))∧w'=w:=by
 cases hk:(kind==1)
 ·have hb:((kind:Int)==1)=false:=by rw[beq_eq_false_iff_ne];have:=beq_eq_false_iff_ne.1 hk;omega
  clear hk
  go_enter Tryz.func82,Tryz.ntmps82
  go_wp2_with fail
  go_ret
  exact⟨rfl,rfl⟩
 ·have hb:((kind:Int)==1)=true:=by rw[beq_iff_eq];have:=beq_iff_eq.1 hk;omega
  have ho:((op:Int)==0)=(op==0):=by rw[Bool.eq_iff_iff];simp
  generalize(op==0)=ob at *
  clear hk
  go_enter Tryz.func82,Tryz.ntmps82
  go_wp2_with fail
  go_ret
  exact⟨by cases ob<;>rfl,rfl⟩
end
section
set_option maxRecDepth 100000
set_option maxHeartbeats 1000000
open Go.RowKit Go.Maps
structure Az(w:World)(bn news gos:Nat):Prop where
 c3:w.cell? ⟨bn,3,none⟩=some (.int .i64 news)
 c4:w.cell? ⟨bn,4,none⟩=some (.int .i64 gos)
 f3:w.frozen? ⟨bn,3,none⟩=false
 f4:w.frozen? ⟨bn,4,none⟩=false
 n6:news≤6
 g5:gos≤5
theorem pc{w:World}{bn bs news gos kind wa:Nat}(h:Az w bn news gos)(c2:w.cell? ⟨bs,2,none⟩=some (.int .i64 kind))(c8:w.cell? ⟨bs,8,none⟩=some (.int .i64 wa))(hne:bs≠bn)(hk6:kind≠6)(hk7:kind≠7):
  Calls Tryz.prog 61 #[.pointer (some ⟨bn,0,none⟩),.pointer (some ⟨bs,0,none⟩)] w fun r w'=>r=.returned (.tuple #[])∧w'=w:=by
 have c3:=h.c3
 have c4:=h.c4
 have f3:=h.f3
 have f4:=h.f4
 have n6:=h.n6
 have g5:=h.g5
 clear h
 have b6:((kind:Int)==6)=false:=by rw[beq_eq_false_iff_ne];omega
 have b7:((kind:Int)==7)=false:=by rw[beq_eq_false_iff_ne];omega
 go_enter Tryz.func61,Tryz.ntmps61
 go_wp2_with fail
 first|go_end0|refine bodyPost_ret (results_none rfl _ _ _) rfl ?_
 exact⟨rfl,rfl⟩
theorem rW{w:World}{bn bs news gos kind wa:Nat}(h:Az w bn news gos)(c2:w.cell? ⟨bs,2,none⟩=some (.int .i64 kind))(c8:w.cell? ⟨bs,8,none⟩=some (.int .i64 wa))(hne:bs≠bn)(hk:kind=6)(hl:news< 6):
  Calls Tryz.prog 61 #[.pointer (some ⟨bn,0,none⟩),.pointer (some ⟨bs,0,none⟩)] w fun r w'=>r=.returned (.tuple #[])∧w'=w.setCell ⟨bn,3,none⟩ (.int .i64 ((news:Int)+1)):=by
 have c3:=h.c3
 have c4:=h.c4
 have f3:=h.f3
 have f4:=h.f4
 have n6:=h.n6
 have g5:=h.g5
 clear h
 subst hk
 go_enter Tryz.func61,Tryz.ntmps61
 go_wp2_with fail
 first|go_end0|refine bodyPost_ret (results_none rfl _ _ _) rfl ?_
 exact⟨rfl,rfl⟩
theorem lp{w:World}{bn bs news gos kind wa:Nat}(h:Az w bn news gos)(c2:w.cell? ⟨bs,2,none⟩=some (.int .i64 kind))(c8:w.cell? ⟨bs,8,none⟩=some (.int .i64 wa))(hne:bs≠bn)(hk:kind=6)(hl:news=6):
  Calls Tryz.prog 61 #[.pointer (some ⟨bn,0,none⟩),.pointer (some ⟨bs,0,none⟩)] w fun r w'=>cc w' r 8 wa∧Below w.heap.size (w.setCell ⟨bn,3,none⟩ (.int .i64 7)) w':=by
 have c3:=h.c3
 have c4:=h.c4
 have f3:=h.f3
 have f4:=h.f4
 have n6:=h.n6
 have g5:=h.g5
 clear h
 subst hk hl
 go_enter Tryz.func61,Tryz.ntmps61
 go_wp2_with fail
 refine(bo 8 wa _).mono ?_
 rintro e w2 ⟨⟨b2,rfl,h3⟩,h4⟩
 replace h3:=aa h3
 replace h4:=aa h4
 go_wp2_with fail
 exact⟨rfl,⟨b2,rfl,h3.out⟩,by simpa[World.setCell]using h4.out⟩
theorem um{w:World}{bn bs news gos kind wa:Nat}(h:Az w bn news gos)(c2:w.cell? ⟨bs,2,none⟩=some (.int .i64 kind))(c8:w.cell? ⟨bs,8,none⟩=some (.int .i64 wa))(hne:bs≠bn)(hk:kind=7)(hl:gos< 5):
  Calls Tryz.prog 61 #[.pointer (some ⟨bn,0,none⟩),.pointer (some ⟨bs,0,none⟩)] w fun r w'=>r=.returned (.tuple #[])∧w'=w.setCell ⟨bn,4,none⟩ (.int .i64 ((gos:Int)+1)):=by
 have c3:=h.c3
 have c4:=h.c4
 have f3:=h.f3
 have f4:=h.f4
 have n6:=h.n6
 have g5:=h.g5
 clear h
 subst hk
 go_enter Tryz.func61,Tryz.ntmps61
 go_wp2_with fail
 first|go_end0|refine bodyPost_ret (results_none rfl _ _ _) rfl ?_
 exact⟨rfl,rfl⟩
theorem mt{w:World}{bn bs news gos kind wa:Nat}(h:Az w bn news gos)(c2:w.cell? ⟨bs,2,none⟩=some (.int .i64 kind))(c8:w.cell? ⟨bs,8,none⟩=some (.int .i64 wa))(hne:bs≠bn)(hk:kind=7)(hl:gos=5):
  Calls Tryz.prog 61 #[.pointer (some ⟨bn,0,none⟩),.pointer (some ⟨bs,0,none⟩)] w fun r w'=>cc w' r 8 wa∧Below w.heap.size (w.setCell ⟨bn,4,none⟩ (.int .i64 6)) w':=by
 have c3:=h.c3
 have c4:=h.c4
 have f3:=h.f3
 have f4:=h.f4
 have n6:=h.n6
 have g5:=h.g5
 clear h
 subst hk hl
 go_enter Tryz.func61,Tryz.ntmps61
 go_wp2_with fail
 refine(bo 8 wa _).mono ?_
 rintro e w2 ⟨⟨b2,rfl,h3⟩,h4⟩
 replace h3:=aa h3
 replace h4:=aa h4
 go_wp2_with fail
 exact⟨rfl,⟨b2,rfl,h3.out⟩,by simpa[World.setCell]using h4.out⟩
end
section
open Go.RowKit Go.Maps
structure Lc where
 g:aj→Option Nat
 c:Nat
def fX(f:aj→Option (Nat×Nat))(l:Lc)(t:aj):Except Nat (Nat×Lc):=match f t with
 |some _=>.error 9
 |none=>match l.g t with
  |some m=>.ok (m,l)
  |none=>if l.c=6 then .error 8 else .ok (l.c,⟨fun s=>if s=t then some l.c else l.g s,l.c+1⟩)
structure za(bl:Nat)(w w':World)(b j:Nat)(v:Value):Prop where
 kp:ae (fun i=>i=bl∨i=b) w w'
 bk:∀A,an w b A→j< A.size→an w' b (A.setIfInBounds j v)
 hp:∀cur e,w.heap[b]?=some (.cells cur e (0,0))→w'.heap[b]?=some (.cells (cur.setIfInBounds j v) e (0,0))
theorem jU{w:World}{bn bm n bf bl b o a m:Nat}{f:aj→Option (Nat×Nat)}{l l':Lc}{t:ByteArray}(hn:NM w bn bm n f)(h:iH w b o t a)(hc:w.cell? ⟨bf,1,none⟩=some (.map (some bl)))(hl:dF w bl l.c l.g)(hl6:l.c≤6)(hne:b≠bl)(hp:fX f l t.data.toList=.ok (m,l')):
  Calls Tryz.prog 84 #[.pointer (some ⟨bn,0,none⟩),.pointer (some ⟨bf,0,none⟩),.pointer (some ⟨b,o,none⟩)] w fun r w'=>r=.returned (.tuple #[])∧za bl w w' b (o+2) (.int .i64 m)∧dF w' bl l'.c l'.g∧l'.c≤6:=by
 unfold fX at hp
 have hbw:b< w.heap.size:=ah h.t0
 cases hf:f t.data.toList with
 |some x=>rw[hf]at hp;cases hp
 |none=>
  rw[hf]at hp
  simp only at hp
  cases hg:l.g t.data.toList with
  |some m'=>
   rw[hg]at hp
   cases hp
   refine(uj hn h hf hc hl hg).mono ?_
   rintro e w' ⟨rfl,rfl⟩
   have k:ae (fun i=>i=bl∨i=b) w (jr (w.setCell ⟨b,o+2,none⟩ (.int .i64 m))):=((((ae.refl (fun i=>i=bl∨i=b) w).setCell (p:=⟨b,o+2,none⟩) (Or.inl (Or.inr rfl)) _).alloc _).drew).drew
   refine⟨rfl,⟨k,fun A hA hj=>((hA.set (o+2) _ hj).alloc _).below ((Below.refl _ _).drew.drew),fun cur e hh=>by rw[(((ae.refl (fun _=>False) (w.setCell ⟨b,o+2,none⟩ (.int .i64 m))).alloc _).drew.drew).block b (by simpa[World.setCell]using hbw) (fun e=>e)];exact heap_setCell hh _ _⟩,?_,hl6⟩
   have k2:ae (ao b) w (jr (w.setCell ⟨b,o+2,none⟩ (.int .i64 m))):=((((ae.refl (ao b) w).setCell (p:=⟨b,o+2,none⟩) (Or.inl rfl) _).alloc _).drew).drew
   exact hl.kept k2 (fun e=>hne e.symm)
  |none=>
   rw[hg]at hp
   simp only at hp
   split at hp
   ·cases hp
   ·rename_i h6
    cases hp
    refine(uk hn h hf hc hl hg (by omega)).mono ?_
    rintro e w' ⟨rfl,w1,h1,ht,rfl⟩
    have k1:ae (fun i=>i=bl) w w1:=(((((ae.refl (fun i=>i=bl) w).alloc _).drew).drew).drew).grown ht.grown (fun k hk=>by cases hk;exact Or.inl rfl)
    refine⟨rfl,⟨(k1.mono (T:=fun i=>i=bl∨i=b) (fun _ e=>Or.inl e)).setCell (p:=⟨b,o+2,none⟩) (Or.inl (Or.inr rfl)) _,fun A hA hj=>(hA.kept k1 hne).set (o+2) _ hj,fun cur e hh=>heap_setCell (by rw[k1.block b hbw hne];exact hh) _ _⟩,?_,by show l.c+1≤6;omega⟩
    exact h1.kept ((ae.refl (ao b) w1).set1 (o+2) _) (fun e=>hne e.symm)
theorem jg{w:World}{bn bm n bf bl b o a er:Nat}{f:aj→Option (Nat×Nat)}{l:Lc}{t:ByteArray}(hn:NM w bn bm n f)(h:iH w b o t a)(hc:w.cell? ⟨bf,1,none⟩=some (.map (some bl)))(hl:dF w bl l.c l.g)(hp:fX f l t.data.toList=.error er):
  Calls Tryz.prog 84 #[.pointer (some ⟨bn,0,none⟩),.pointer (some ⟨bf,0,none⟩),.pointer (some ⟨b,o,none⟩)] w fun r w'=>cc w' r er a∧Below w.heap.size w w':=by
 unfold fX at hp
 cases hf:f t.data.toList with
 |some x=>rw[hf]at hp;cases hp;exact ms hn h hf
 |none=>
  rw[hf]at hp
  simp only at hp
  cases hg:l.g t.data.toList with
  |some m'=>rw[hg]at hp;cases hp
  |none=>
   rw[hg]at hp
   simp only at hp
   split at hp
   ·rename_i h6
    cases hp
    rw[h6]at hl
    exact rV hn h hf hc hl hg
   ·cases hp
end
section
set_option maxRecDepth 100000
set_option maxHeartbeats 2000000
open Go.RowKit Go.Maps
theorem NM.below{w w':World}{bn bm n:Nat}{f:aj→Option (Nat×Nat)}(h:NM w bn bm n f)(k:Below w.heap.size w w'):NM w' bn bm n f:=
 ⟨by rw[k.cell (p:=⟨bn,1,none⟩) (ah (a:=⟨bn,1,none⟩) h.c1)];exact h.c1,h.th.kept (ae.of_below (S:=fun _=>False) k) (fun e=>e)⟩
theorem an.nmLeft{w:World}{bs:Nat}{p:Ph}{sr sb:Value}(h:an w bs (aK p sr sb))(hs:p.lt.length≤1000000):iH w bs 3 ⟨p.lt.toArray⟩ p.la:=⟨h.cell 3,h.cell 4,⟨p.ln,h.cell 5⟩,h.fz 5,hs⟩
def eO(f:aj→Option (Nat×Nat))(l:Lc)(p:Ph):Except Nat (Ph×Lc):=
 if p.lt=[]then .ok (p,l)
 else match(if p.kind=1∧p.op=0 then cy f p.lt 0 else none)with
  |some m=>.ok ({p with ln:=m,kind:=3},l)
  |none=>match fX f l p.lt with
   |.error e=>.error e
   |.ok (m,l')=>.ok ({p with ln:=m},l')
structure Ce(bl:Nat)(w w':World)(bs:Nat)(p:Ph)(sr sb:Value)(l:Lc):Prop where
 kp:ae (fun i=>i=bl∨i=bs) w w'
 st:an w' bs (aK p sr sb)
 lc:dF w' bl l.c l.g
 le:l.c≤6
theorem we{w:World}{bn bm n bf bl bs:Nat}{f:aj→Option (Nat×Nat)}{l:Lc}{p:Ph}{sr sb:Value}(hn:NM w bn bm n f)(hS:an w bs (aK p sr sb))(hz:p.lt.length≤1000000)(hc:w.cell? ⟨bf,1,none⟩=some (.map (some bl)))(hl:dF w bl l.c l.g)(hl6:l.c≤6)(hne:bs≠bl):
  Calls Tryz.prog 60 #[.pointer (some ⟨bn,0,none⟩),.pointer (some ⟨bf,0,none⟩),.pointer (some ⟨bs,0,none⟩)] w fun r w'=>(∃p' l',eO f l p=.ok (p',l')∧r=.returned (.tuple #[])∧Ce bl w w' bs p' sr sb l')∨(∃e,eO f l p=.error e∧cc w' r e p.la∧Below w.heap.size w w'):=by
 have HN:=aa hn
 have HS:=aa hS
 have HL:=aa hl
 have HC:=aa hc
 have c2:w.cell? ⟨bs,2,none⟩=some (.int .i64 p.kind):=hS.cell 2
 have c6:w.cell? ⟨bs,6,none⟩=some (.int .i64 p.op):=hS.cell 6
 have c3:w.cell? ⟨bs,3,none⟩=some (.string ⟨p.lt.toArray⟩):=hS.cell 3
 have HP:=aa (fA c2 c6)
 have HEQ:Hid (eO f l p=if p.lt=[]then .ok (p,l)else match(if p.kind=1∧p.op=0 then cy f p.lt 0 else none)with|some m=>.ok ({p with ln:=m,kind:=3},l)|none=>match fX f l p.lt with|.error e=>.error e|.ok (m,l')=>.ok ({p with ln:=m},l')):=rfl
 clear hn hS hl hc
 rcases hlt:p.lt with _|⟨ch,rest⟩
 ·have HR:Hid (eO f l p=.ok (p,l)):=by show _=_;rw[HEQ.out,if_pos hlt]
  rw[hlt]at c3
  replace hlt:=aa hlt
  go_enter Tryz.func60,Tryz.ntmps60
  go_wp2_with fail
  first|go_end0|refine bodyPost_ret (results_none rfl _ _ _) rfl ?_
  exact Or.inl ⟨p,l,HR.out,rfl,ae.refl _ _,HS.out,HL.out,hl6⟩
 ·have hne0:¬p.lt=[]:=by rw[hlt];simp
  have HE2:Hid (eO f l p=match(if p.kind=1∧p.op=0 then cy f p.lt 0 else none)with|some m=>.ok ({p with ln:=m,kind:=3},l)|none=>match fX f l p.lt with|.error e=>.error e|.ok (m,l')=>.ok ({p with ln:=m},l')):=by show _=_;rw[HEQ.out,if_neg hne0]
  have c3':w.cell? ⟨bs,3,none⟩=some (.string ⟨(ch::rest:aj).toArray⟩):=by rw[←hlt];exact c3
  have HNM:=aa (HS.out.nmLeft hz)
  clear c3
  replace hlt:=aa hlt
  replace hne0:=aa hne0
  by_cases hpl:p.kind=1∧p.op=0
  ·have HPB:Hid ((p.kind==1&&p.op==0)=true):=by show _=_;simp[hpl.1,hpl.2]
   cases hff:cy f p.lt 0 with
   |some m=>
    have HR:Hid (eO f l p=.ok ({p with ln:=m,kind:=3},l)):=by show _=_;rw[HE2.out,if_pos hpl,hff]
    have HFF:Hid (cy f p.lt 0=some m):=hff
    clear hff hpl
    go_enter Tryz.func60,Tryz.ntmps60
    go_wp2_with fail
    refine HP.out.mono ?_
    rintro e wq ⟨rfl,hq⟩
    subst wq
    rw[HPB.out]
    go_wp2_with fail
    refine(ol HN.out HNM.out HFF.out).mono ?_
    rintro e w2 ⟨rfl,w1,hb,rfl⟩
    have hS2:=(HS.out.below hb).set 5 (.int .i64 m) (show 5< 14 by decide)
    have HS2:=aa hS2
    have HB:=aa hb
    have d2:(w1.setCell ⟨bs,3+2,none⟩ (.int .i64 m)).cell? ⟨bs,2,none⟩=some (.int .i64 p.kind):=hS2.cell 2
    have df:∀j,(w1.setCell ⟨bs,3+2,none⟩ (.int .i64 m)).frozen? ⟨bs,j,none⟩=false:=hS2.fz
    clear hb hS2
    generalize hw2:w1.setCell ⟨bs,3+2,none⟩ (.int .i64 m)=w2 at *
    replace hw2:=aa hw2
    go_wp2_with fail
    first|go_end0|refine bodyPost_ret (results_none rfl _ _ _) rfl ?_
    have k0:ae (ao bs) w w2:=by rw[←hw2.out];exact(ae.of_below (S:=ao bs) HB.out).set1 5 _
    have k3:=k0.set1 2 (.int .i64 3)
    exact Or.inl ⟨_,_,HR.out,rfl,k3.mono (fun _ e=>Or.inr e),HS2.out.set 2 _ (show 2< 14 by decide),HL.out.kept k3 (fun e=>hne e.symm),hl6⟩
   |none=>
    have HE3:Hid (eO f l p=match fX f l p.lt with|.error e=>.error e|.ok (m,l')=>.ok ({p with ln:=m},l')):=by show _=_;rw[HE2.out,if_pos hpl,hff]
    have HFF:Hid (cy f p.lt 0=none):=hff
    clear hff hpl
    go_enter Tryz.func60,Tryz.ntmps60
    go_wp2_with fail
    refine HP.out.mono ?_
    rintro e wq ⟨rfl,hq⟩
    subst wq
    rw[HPB.out]
    go_wp2_with fail
    refine(qC HN.out HNM.out HFF.out).mono ?_
    rintro e w1 ⟨rfl,hb⟩
    have HB:=aa hb
    have HS1:=aa (HS.out.below hb)
    have HC1:Hid (w1.cell? ⟨bf,1,none⟩=some (.map (some bl))):=by show _=_;rw[hb.cell (p:=⟨bf,1,none⟩) (ah (a:=⟨bf,1,none⟩) HC.out)];exact HC.out
    have HL1:=aa (HL.out.kept (ae.of_below (S:=fun _=>False) hb) (fun e=>e))
    clear hb
    go_wp2_with fail
    cases hlp:fX f l p.lt with
    |error er=>
     have HR:Hid (eO f l p=.error er):=by show _=_;rw[HE3.out,hlp]
     have HLP:Hid (fX f l p.lt=.error er):=hlp
     clear hlp
     refine(jg (HN.out.below HB.out) (HS1.out.nmLeft hz) HC1.out HL1.out HLP.out).mono ?_
     rintro e w2 ⟨⟨b2,rfl,h3⟩,h4⟩
     replace h3:=aa h3
     replace h4:=aa h4
     go_wp2_with fail
     exact⟨rfl,Or.inr ⟨er,HR.out,⟨b2,rfl,h3.out⟩,HB.out.trans (h4.out.mono HB.out.size)⟩⟩
    |ok ml=>
     obtain⟨m,l'⟩:=ml
     have HR:Hid (eO f l p=.ok ({p with ln:=m},l')):=by show _=_;rw[HE3.out,hlp]
     have HLP:Hid (fX f l p.lt=.ok (m,l')):=hlp
     clear hlp
     refine(jU (HN.out.below HB.out) (HS1.out.nmLeft hz) HC1.out HL1.out hl6 hne HLP.out).mono ?_
     rintro e w2 ⟨rfl,hw,hlo,hle⟩
     have HX:=aa (And.intro hw (And.intro hlo hle))
     clear hw hlo hle
     go_wp2_with fail
     first|go_end0|refine bodyPost_ret (results_none rfl _ _ _) rfl ?_
     exact Or.inl ⟨_,_,HR.out,rfl,(ae.of_below (S:=fun i=>i=bl∨i=bs) HB.out).trans HX.out.1.kp,HX.out.1.bk _ HS1.out (show 5< 14 by decide),HX.out.2.1,HX.out.2.2⟩
  ·have HPB:Hid ((p.kind==1&&p.op==0)=false):=by show _=_;rw[Bool.eq_false_iff];intro e;simp at e;exact hpl e
   have HE3:Hid (eO f l p=match fX f l p.lt with|.error e=>.error e|.ok (m,l')=>.ok ({p with ln:=m},l')):=by show _=_;rw[HE2.out,if_neg hpl]
   clear hpl
   go_enter Tryz.func60,Tryz.ntmps60
   go_wp2_with fail
   refine HP.out.mono ?_
   rintro e wq ⟨rfl,hq⟩
   subst wq
   rw[HPB.out]
   go_wp2_with fail
   cases hlp:fX f l p.lt with
   |error er=>
    have HR:Hid (eO f l p=.error er):=by show _=_;rw[HE3.out,hlp]
    have HLP:Hid (fX f l p.lt=.error er):=hlp
    clear hlp
    refine(jg HN.out HNM.out HC.out HL.out HLP.out).mono ?_
    rintro e w2 ⟨⟨b2,rfl,h3⟩,h4⟩
    replace h3:=aa h3
    replace h4:=aa h4
    go_wp2_with fail
    exact⟨rfl,Or.inr ⟨er,HR.out,⟨b2,rfl,h3.out⟩,h4.out⟩⟩
   |ok ml=>
    obtain⟨m,l'⟩:=ml
    have HR:Hid (eO f l p=.ok ({p with ln:=m},l')):=by show _=_;rw[HE3.out,hlp]
    have HLP:Hid (fX f l p.lt=.ok (m,l')):=hlp
    clear hlp
    refine(jU HN.out HNM.out HC.out HL.out hl6 hne HLP.out).mono ?_
    rintro e w2 ⟨rfl,hw,hlo,hle⟩
    have HX:=aa (And.intro hw (And.intro hlo hle))
    clear hw hlo hle
    go_wp2_with fail
    first|go_end0|refine bodyPost_ret (results_none rfl _ _ _) rfl ?_
    exact Or.inl ⟨_,_,HR.out,rfl,HX.out.1.kp,HX.out.1.bk _ HS.out (show 5< 14 by decide),HX.out.2.1,HX.out.2.2⟩
end
section
set_option maxRecDepth 100000
set_option maxHeartbeats 2000000
open Go.RowKit Go.Maps
structure Cg(w:World)(Q:Nat→Prop)(bn:Nat)(np:List Nat):Prop where
 ex:∃pf cf,w.cell? ⟨bn,2,none⟩=some (.slice pf np.length cf)∧∀m k,np[m]?=some k→∃gf bf bd pp cp,Q gf∧Q bf∧Q bd∧pf=some ⟨gf,0,none⟩∧w.cell? ⟨gf,m,none⟩=some (ak bf)∧w.cell? ⟨bf,0,none⟩=some (ak bd)∧w.cell? ⟨bd,4,none⟩=some (.slice pp k cp)
def eL(f:aj→Option (Nat×Nat))(np:List Nat)(rl:Nat)(p:Ph):Except Nat Ph:=
 if p.kind=9∨p.kind=10 then(match cy f p.nt 1 with|some m=>.ok {p with nn:=m}|none=>.error 9)
 else if p.kind=7∨p.kind=11 then(match cy f p.nt 2 with|some m=>if np[m]?=some rl then .ok {p with nn:=m}else .error 10|none=>.error 9)
 else .ok p
theorem an.nmNamed{w:World}{bs:Nat}{p:Ph}{sr sb:Value}(h:an w bs (aK p sr sb))(hs:p.nt.length≤1000000):iH w bs 9 ⟨p.nt.toArray⟩ p.na:=⟨h.cell 9,h.cell 10,⟨p.nn,h.cell 11⟩,h.fz 11,hs⟩
theorem rS{w:World}{bn bm n bs rl m k:Nat}{f:aj→Option (Nat×Nat)}{np:List Nat}{Q:Nat→Prop}{p:Ph}{pr:Option Addr}{cr:Nat}{sb:Value}(hn:NM w bn bm n f)(hfn:Cg w Q bn np)(hS:an w bs (aK p (.slice pr rl cr) sb))(hz:p.nt.length≤1000000)(hk:p.kind=7∨p.kind=11)(hff:cy f p.nt 2=some m)(hnp:np[m]?=some k)(hne:bs≠bn)(hmx:m≤1000000)(hpl:np.length≤1000000)(hq:¬Q bs):
  Calls Tryz.prog 62 #[.pointer (some ⟨bn,0,none⟩),.pointer (some ⟨bs,0,none⟩)] w fun r w'=>∃w1,Below w.heap.size w w1∧((k=rl∧r=.returned (.tuple #[])∧w'=(w1.setCell ⟨bs,9+2,none⟩ (.int .i64 m)).drew)∨(k≠rl∧cc w' r 10 p.na∧Below w.heap.size ((w1.setCell ⟨bs,9+2,none⟩ (.int .i64 m)).drew) w')):=by
 have HN:=aa hn
 have HS:=aa hS
 have c2:w.cell? ⟨bs,2,none⟩=some (.int .i64 p.kind):=hS.cell 2
 have HNM:=aa (hS.nmNamed hz)
 have HFF:=aa hff
 have HFN:=aa hfn
 obtain⟨pf,cf,g0,gx⟩:=hfn.ex
 obtain⟨gf,bf,bd,pp,cp,q1,q2,q3,rfl,g1,g2,g3⟩:=gx m k hnp
 have hmlt:m< np.length:=(List.getElem?_eq_some_iff.1 hnp).1
 have n1:gf≠bs:=fun e=>hq (e▸q1)
 have n2:bf≠bs:=fun e=>hq (e▸q2)
 have n3:bd≠bs:=fun e=>hq (e▸q3)
 have HG:=aa (And.intro g0 (And.intro g1 (And.intro g2 g3)))
 clear hn hS hff hfn gx g0 g1 g2 g3 HFN hq q1 q2 q3 hnp
 rcases hk with hk|hk
 all_goals
  rw[hk]at c2
  go_enter Tryz.func62,Tryz.ntmps62
  go_wp2_with fail
  refine(od (kind:=2) HN.out HNM.out HFF.out).mono ?_
  rintro e w2 ⟨rfl,w1,hb,rfl⟩
  have hS2:=(HS.out.below hb).set 11 (.int .i64 m) (show 11< 14 by decide)
  have HB:=aa hb
  have mv:∀(x j:Nat) (u:Value),x≠bs→w.cell? ⟨x,j,none⟩=some u→(w1.setCell ⟨bs,9+2,none⟩ (.int .i64 m)).cell? ⟨x,j,none⟩=some u:=fun x j u hx hu=>by
   rw[World.cell?_setCell_other _ _ _ _ (by intro e;cases e;exact hx rfl),hb.cell (p:=⟨x,j,none⟩) (ah hu)];exact hu
  have y0:=mv bn 2 _ hne.symm HG.out.1
  have y1:=mv gf m _ n1 HG.out.2.1
  have y1':(w1.setCell ⟨bs,9+2,none⟩ (.int .i64 m)).cell? ⟨gf,m*1,none⟩=some (ak bf):=by rw[Nat.mul_one];exact y1
  have y2:=mv bf 0 _ n2 HG.out.2.2.1
  have y3:=mv bd 4 _ n3 HG.out.2.2.2
  have z11:(w1.setCell ⟨bs,9+2,none⟩ (.int .i64 m)).cell? ⟨bs,11,none⟩=some (.int .i64 m):=hS2.cell 11
  have z11':(w1.setCell ⟨bs,9+2,none⟩ (.int .i64 m)).cell? ⟨bs,9+2,none⟩=some (.int .i64 m):=hS2.cell 11
  have z12:(w1.setCell ⟨bs,9+2,none⟩ (.int .i64 m)).cell? ⟨bs,12,none⟩=some (.slice pr rl cr):=hS2.cell 12
  have z10:(w1.setCell ⟨bs,9+2,none⟩ (.int .i64 m)).cell? ⟨bs,10,none⟩=some (.int .i64 p.na):=hS2.cell 10
  have z10':(w1.setCell ⟨bs,9+2,none⟩ (.int .i64 m)).cell? ⟨bs,9+1,none⟩=some (.int .i64 p.na):=hS2.cell 10
  have hzz:w.heap.size≤w1.heap.size:=hb.size
  have hzs:(w1.setCell ⟨bs,9+2,none⟩ (.int .i64 m)).heap.size=w1.heap.size:=by simp[World.setCell]
  replace hzs:=aa hzs
  clear hb hS2 mv
  generalize hw2:w1.setCell ⟨bs,9+2,none⟩ (.int .i64 m)=w2 at *
  replace hw2:=aa hw2
  by_cases hkr:k=rl
  ·have hkb:((k:Int)!=(rl:Int))=false:=by rw[bne_eq_false_iff_eq];omega
   have HKR:=aa hkr
   clear hkr
   go_wp2_with fail
   go_region
   all_goals
    go_wp2_with fail
    first|go_end0|refine bodyPost_ret (results_none rfl _ _ _) rfl ?_
    exact⟨w1,HB.out,Or.inl ⟨HKR.out,rfl,by rw[hw2.out]⟩⟩
  ·have hkb:((k:Int)!=(rl:Int))=true:=by rw[bne_iff_ne];omega
   have HKR:=aa hkr
   clear hkr
   go_wp2_with fail
   go_region
   all_goals
    go_wp2_with fail
    refine(bo 10 p.na _).mono ?_
    rintro e w3 ⟨⟨b2,rfl,h3⟩,h4⟩
    replace h3:=aa h3
    replace h4:=aa h4
    go_wp2_with fail
    refine⟨rfl,w1,HB.out,Or.inr ⟨HKR.out,⟨b2,rfl,h3.out⟩,?_⟩⟩
    rw[hw2.out]
    exact h4.out.mono (by show w.heap.size≤w2.heap.size;have:=hzs.out;omega)
end
section
set_option maxRecDepth 100000
set_option maxHeartbeats 1000000
open Go.RowKit Go.Maps
theorem rR{w:World}{bn bm n bs m:Nat}{f:aj→Option (Nat×Nat)}{p:Ph}{sr sb:Value}(hn:NM w bn bm n f)(hS:an w bs (aK p sr sb))(hz:p.nt.length≤1000000)(hk:p.kind=9∨p.kind=10)(hff:cy f p.nt 1=some m):
  Calls Tryz.prog 62 #[.pointer (some ⟨bn,0,none⟩),.pointer (some ⟨bs,0,none⟩)] w fun r w'=>r=.returned (.tuple #[])∧∃w1,Below w.heap.size w w1∧w'=w1.setCell ⟨bs,9+2,none⟩ (.int .i64 m):=by
 have HN:=aa hn
 have HNM:=aa (hS.nmNamed hz)
 have c2:w.cell? ⟨bs,2,none⟩=some (.int .i64 p.kind):=hS.cell 2
 have HFF:=aa hff
 clear hn hS hff
 rcases hk with hk|hk
 all_goals
  rw[hk]at c2
  go_enter Tryz.func62,Tryz.ntmps62
  go_wp2_with fail
  refine(od (kind:=1) HN.out HNM.out HFF.out).mono ?_
  rintro e w2 ⟨rfl,w1,hb,hw⟩
  have HX:=aa (And.intro hb hw)
  clear hb hw
  go_wp2_with fail
  first|go_end0|refine bodyPost_ret (results_none rfl _ _ _) rfl ?_
  exact⟨rfl,w1,HX.out.1,HX.out.2⟩
theorem oX{w:World}{bn bm n bs:Nat}{f:aj→Option (Nat×Nat)}{p:Ph}{sr sb:Value}(hn:NM w bn bm n f)(hS:an w bs (aK p sr sb))(hz:p.nt.length≤1000000)(hk:p.kind=9∨p.kind=10)(hff:cy f p.nt 1=none):
  Calls Tryz.prog 62 #[.pointer (some ⟨bn,0,none⟩),.pointer (some ⟨bs,0,none⟩)] w fun r w'=>cc w' r 9 p.na∧Below w.heap.size w w':=by
 have HN:=aa hn
 have HNM:=aa (hS.nmNamed hz)
 have c2:w.cell? ⟨bs,2,none⟩=some (.int .i64 p.kind):=hS.cell 2
 have HFF:=aa hff
 clear hn hS hff
 rcases hk with hk|hk
 all_goals
  rw[hk]at c2
  go_enter Tryz.func62,Tryz.ntmps62
  go_wp2_with fail
  refine(qy (kind:=1) HN.out HNM.out HFF.out).mono ?_
  rintro e w2 ⟨⟨b2,rfl,h3⟩,h4⟩
  replace h3:=aa h3
  replace h4:=aa h4
  go_wp2_with fail
  exact⟨rfl,⟨b2,rfl,h3.out⟩,h4.out⟩
theorem oY{w:World}{bn bm n bs:Nat}{f:aj→Option (Nat×Nat)}{p:Ph}{sr sb:Value}(hn:NM w bn bm n f)(hS:an w bs (aK p sr sb))(hz:p.nt.length≤1000000)(hk:p.kind=7∨p.kind=11)(hff:cy f p.nt 2=none):
  Calls Tryz.prog 62 #[.pointer (some ⟨bn,0,none⟩),.pointer (some ⟨bs,0,none⟩)] w fun r w'=>cc w' r 9 p.na∧Below w.heap.size w w':=by
 have HN:=aa hn
 have HNM:=aa (hS.nmNamed hz)
 have c2:w.cell? ⟨bs,2,none⟩=some (.int .i64 p.kind):=hS.cell 2
 have HFF:=aa hff
 clear hn hS hff
 rcases hk with hk|hk
 all_goals
  rw[hk]at c2
  go_enter Tryz.func62,Tryz.ntmps62
  go_wp2_with fail
  refine(qy (kind:=2) HN.out HNM.out HFF.out).mono ?_
  rintro e w2 ⟨⟨b2,rfl,h3⟩,h4⟩
  replace h3:=aa h3
  replace h4:=aa h4
  go_wp2_with fail
  exact⟨rfl,⟨b2,rfl,h3.out⟩,h4.out⟩
theorem qu{w:World}{bn bm n bs:Nat}{f:aj→Option (Nat×Nat)}{p:Ph}{sr sb:Value}(hn:NM w bn bm n f)(hS:an w bs (aK p sr sb))(hz:p.nt.length≤1000000)(hk:p.kind≠9∧p.kind≠10∧p.kind≠7∧p.kind≠11):
  Calls Tryz.prog 62 #[.pointer (some ⟨bn,0,none⟩),.pointer (some ⟨bs,0,none⟩)] w fun r w'=>r=.returned (.tuple #[])∧w'=w:=by
 have HN:=aa hn
 have HNM:=aa (hS.nmNamed hz)
 have c2:w.cell? ⟨bs,2,none⟩=some (.int .i64 p.kind):=hS.cell 2
 have b9:((p.kind:Int)==9)=false:=by rw[beq_eq_false_iff_ne];omega
 have b10:((p.kind:Int)==10)=false:=by rw[beq_eq_false_iff_ne];omega
 have b7:((p.kind:Int)==7)=false:=by rw[beq_eq_false_iff_ne];omega
 have b11:((p.kind:Int)==11)=false:=by rw[beq_eq_false_iff_ne];omega
 clear hn hS
 go_enter Tryz.func62,Tryz.ntmps62
 go_wp2_with fail
 first|go_end0|refine bodyPost_ret (results_none rfl _ _ _) rfl ?_
 exact⟨rfl,rfl⟩
end
section
open Go.RowKit Go.Maps
theorem oV{w w':World}{B e size n g j:Nat}{p:Option Addr}{c:Nat}{xs:List Value}{u:Value}(h:w.ownsRow B e size (.slice p n c) n xs)(hg:p=some ⟨g,0,none⟩)(hj:j< n*size)(hw:∀cur,w.heap[g]?=some (.cells cur e (0,0))→w'.heap[g]?=some (.cells (cur.setIfInBounds j u) e (0,0))):w'.ownsRow B e size (.slice p n c) n (xs.set j u):=by
 refine⟨by rw[List.length_set];exact h.1,?_⟩
 rcases h.2 with⟨hn,h0⟩|⟨g',cap,cur,hv,hB,hh,h1,h2,h3,h4⟩
 ·subst h0;omega
 ·cases hv
  cases hg
  refine Or.inr ⟨g,c,cur.setIfInBounds j u,rfl,hB,hw cur hh,h1,h2,by simpa using h3,?_⟩
  rw[←h4,Array.toList_setIfInBounds]
  apply List.ext_getElem?
  intro i
  by_cases hi:i< n*size
  ·by_cases e:i=j
   ·subst e
    by_cases hl:i< cur.toList.length
    ·rw[List.getElem?_take_of_lt hi,List.getElem?_set_self hl,List.getElem?_set_self (by simp at hl⊢;omega)]
    ·rw[List.getElem?_take_of_lt hi,List.getElem?_eq_none (by simp at hl⊢;omega),List.getElem?_eq_none (by simp at hl⊢;omega)]
   ·rw[List.getElem?_take_of_lt hi,List.getElem?_set_ne (Ne.symm e),List.getElem?_set_ne (Ne.symm e),List.getElem?_take_of_lt hi]
  ·rw[List.getElem?_eq_none (by simp;omega),List.getElem?_eq_none (by simp;omega)]
end
section
open Go.RowKit Go.Maps
def dm(f:aj→Option (Nat×Nat)):Lc→List Pa→Except (Nat×Nat) (List Pa×Lc)
 |l,[]=>.ok ([],l)
 |l,a::r=>if a.text=[]then(match dm f l r with|.ok (r',l')=>.ok (a::r',l')|.error e=>.error e)
  else match fX f l a.text with
   |.error e=>.error (e,a.at_)
   |.ok (m,l1)=>match dm f l1 r with|.ok (r',l')=>.ok ({a with num:=m}::r',l')|.error e=>.error e
theorem qi(r1 r2:List Pa)(a:Pa)(m:Nat):(et (r1++a::r2)).set (r1.length*4+2) (.int .i64 m)=et (r1++{a with num:=m}::r2):=by
 rw[iN,iN,List.set_append_right _ _ (by rw[jO];omega),jO]
 have:r1.length*4+2-r1.length*4=2:=by omega
 rw[this]
 rfl
end
section
open Go.RowKit Go.Maps
structure RI(w wr:World)(bn bm n bf bl bs gr cr:Nat)(f:aj→Option (Nat×Nat))(p:Ph)(sb:Value)(l0 l:Lc)(r r1 r2:List Pa):Prop where
 nm:NM wr bn bm n f
 hc:wr.cell? ⟨bf,1,none⟩=some (.map (some bl))
 lc:dF wr bl l.c l.g
 le:l.c≤6
 st:an wr bs (aK p (.slice (some ⟨gr,0,none⟩) r.length cr) sb)
 row:wr.ownsRow 0 193 4 (.slice (some ⟨gr,0,none⟩) r.length cr) r.length (et (r1++r2))
 kp:ae (fun i=>i=bl∨i=gr) w wr
 eq:dm f l0 r=match dm f l r2 with|.ok (r',l')=>.ok (r1++r',l')|.error e=>.error e
 len:r1.length+r2.length=r.length
structure oB(bn bm bf bl bs gr:Nat):Prop where
 a1:gr≠bl
 a2:bs≠gr
 a3:bs≠bl
 a4:bn≠gr
 a5:bn≠bl
 a6:bm≠gr
 a7:bm≠bl
 a8:bf≠gr
 a9:bf≠bl
theorem RI.step{w wr w':World}{bn bm n bf bl bs gr cr m:Nat}{f:aj→Option (Nat×Nat)}{p:Ph}{sb:Value}{l0 l l':Lc}{r r1 r2:List Pa}{a:Pa}(h:RI w wr bn bm n bf bl bs gr cr f p sb l0 l r r1 (a::r2))(ap:oB bn bm bf bl bs gr)(ht:a.text≠[])(hp:fX f l a.text=.ok (m,l'))(hw:za bl wr w' gr (r1.length*4+2) (.int .i64 m))(hl:dF w' bl l'.c l'.g)(hle:l'.c≤6):
  RI w w' bn bm n bf bl bs gr cr f p sb l0 l' r (r1++[{a with num:=m}]) r2:=by
 have hlen:=h.len
 simp at hlen
 refine⟨⟨?_,?_⟩,?_,hl,hle,?_,?_,?_,?_,by simp;omega⟩
 ·rw[hw.kp.cell (p:=⟨bn,1,none⟩) (ah (a:=⟨bn,1,none⟩) h.nm.c1) (fun e=>e.elim ap.a5 ap.a4)];exact h.nm.c1
 ·exact h.nm.th.kept hw.kp (fun e=>e.elim ap.a7 ap.a6)
 ·rw[hw.kp.cell (p:=⟨bf,1,none⟩) (ah (a:=⟨bf,1,none⟩) h.hc) (fun e=>e.elim ap.a9 ap.a8)];exact h.hc
 ·exact h.st.kept hw.kp (fun e=>e.elim ap.a3 ap.a2)
 ·have:=oV h.row rfl (j:=r1.length*4+2) (u:=.int .i64 m) (by omega) (fun cur hh=>hw.hp cur _ hh)
  rw[qi]at this
  simpa using this
 ·exact h.kp.trans hw.kp
 ·rw[h.eq,dm,if_neg ht,hp]
  simp only
  cases hx:dm f l' r2 with
  |error e=>rfl
  |ok x=>obtain⟨r',l''⟩:=x;simp
theorem RI.skip{w wr:World}{bn bm n bf bl bs gr cr:Nat}{f:aj→Option (Nat×Nat)}{p:Ph}{sb:Value}{l0 l:Lc}{r r1 r2:List Pa}{a:Pa}(h:RI w wr bn bm n bf bl bs gr cr f p sb l0 l r r1 (a::r2))(ht:a.text=[]):RI w wr bn bm n bf bl bs gr cr f p sb l0 l r (r1++[a]) r2:=by
 have hlen:=h.len
 simp at hlen
 refine⟨h.nm,h.hc,h.lc,h.le,h.st,by simpa using h.row,h.kp,?_,by simp;omega⟩
 rw[h.eq,dm,if_pos ht]
 cases dm f l r2 with
 |error e=>rfl
 |ok x=>obtain⟨r',l''⟩:=x;simp
theorem RI.name{w wr:World}{bn bm n bf bl bs gr cr:Nat}{f:aj→Option (Nat×Nat)}{p:Ph}{sb:Value}{l0 l:Lc}{r r1 r2:List Pa}{a:Pa}(h:RI w wr bn bm n bf bl bs gr cr f p sb l0 l r r1 (a::r2))(hz:a.text.length≤1000000):iH wr gr (r1.length*4) ⟨a.text.toArray⟩ a.at_:=by
 have hlen:=h.len
 simp at hlen
 have hc:∀j,j< 4→wr.cell? ⟨gr,r1.length*4+j,none⟩=(vH a)[j]?:=fun j hj=>by rw[h.row.cellAt _ (by omega)];exact tm r1 r2 a j hj
 refine⟨hc 0 (by decide),hc 1 (by decide),⟨a.num,hc 2 (by decide)⟩,?_,hz⟩
 rcases h.row.2 with⟨_,h0⟩|⟨g',cap,cur,hv,hB,hh,_⟩
 ·omega
 ·cases hv
  rw[World.frozen?]
  simp[hh]
end
section
set_option maxRecDepth 100000
set_option maxHeartbeats 2000000
open Go.RowKit Go.Maps
theorem tP{w:World}{bn bm n bf bl bs gr cr:Nat}{f:aj→Option (Nat×Nat)}{p:Ph}{sb:Value}{l0:Lc}{r:List Pa}(h:RI w w bn bm n bf bl bs gr cr f p sb l0 l0 r [] r)(ap:oB bn bm bf bl bs gr)(hpl:¬(p.kind=1∧p.op=0))(hz:∀a,a∈r→a.text.length≤1000000)(hrl:r.length≤1000000):
  Calls Tryz.prog 63 #[.pointer (some ⟨bn,0,none⟩),.pointer (some ⟨bf,0,none⟩),.pointer (some ⟨bs,0,none⟩)] w fun r' w'=>(∃r2 l',dm f l0 r=.ok (r2,l')∧r'=.returned (.tuple #[])∧RI w w' bn bm n bf bl bs gr cr f p sb l0 l' r r2 [])∨(∃e a,dm f l0 r=.error (e,a)∧cc w' r' e a∧ae (fun i=>i=bl∨i=gr) w w'):=by
 have HI:=aa h
 have HAP:=aa ap
 have HZ:=aa hz
 have c2:w.cell? ⟨bs,2,none⟩=some (.int .i64 p.kind):=h.st.cell 2
 have c6:w.cell? ⟨bs,6,none⟩=some (.int .i64 p.op):=h.st.cell 6
 have c12:w.cell? ⟨bs,12,none⟩=some (.slice (some ⟨gr,0,none⟩) r.length cr):=h.st.cell 12
 have HP:=aa (fA c2 c6)
 have HPB:Hid ((p.kind==1&&p.op==0)=false):=by show _=_;rw[Bool.eq_false_iff];intro e;simp at e;exact hpl e
 clear h ap hz hpl
 go_enter Tryz.func63,Tryz.ntmps63
 go_wp2_with fail
 refine HP.out.mono ?_
 rintro e wq ⟨rfl,hq⟩
 subst wq
 rw[HPB.out]
 go_wp2_with fail
 clear c2 c6 c12
 go_loopw [28] (fun i wr=>∃(k:Nat) (l:Lc) (r1 r2:List Pa),k=r1.length∧i=.int .i64 k∧Hid (RI w wr bn bm n bf bl bs gr cr f p sb l0 l r r1 r2)∧Hid (∀a,a∈r2→a.text.length≤1000000)) (fun i _=>r.length-(intOf i).toNat)
 case atStart=>exact⟨0,l0,[],r,rfl,rfl,HI,HZ⟩
 case round=>
  obtain⟨k,l,r1,r2,hk,rfl,HR,HZ2⟩:=hrel
  have hlen:=HR.out.len
  have c12:wr.cell? ⟨bs,12,none⟩=some (.slice (some ⟨gr,0,none⟩) r.length cr):=HR.out.st.cell 12
  rcases r2 with _|⟨a,r2⟩
  ·have hkl:¬((k:Int)< (r.length:Int)):=by simp at hlen;omega
   have HEQ:Hid (dm f l0 r=.ok (r1,l)):=by show _=_;rw[HR.out.eq,dm];simp
   go_wp2_with fail
   first|go_end0|refine bodyPost_ret (results_none rfl _ _ _) rfl ?_
   exact Or.inl ⟨r1,l,HEQ.out,rfl,HR.out⟩
  ·have hkl:(k:Int)< (r.length:Int):=by simp at hlen;omega
   have hkn:k< r.length:=by omega
   have hsz:a.text.length≤1000000:=HZ2.out a (by simp)
   have HZ3:Hid (∀x,x∈r2→x.text.length≤1000000):=fun x hx=>HZ2.out x (by simp[hx])
   have HNM:=aa (HR.out.name hsz)
   subst hk
   have t0:=HNM.out.t0
   have hr1:r1.length≤1000000:=by omega
   rcases htx:a.text with _|⟨ch,rest⟩
   ·have HSK:=aa (HR.out.skip htx)
    rw[htx]at t0
    replace htx:=aa htx
    go_wp2_with fail
    go_roundw
    case rel=>exact⟨r1.length+1,l,r1++[a],r2,by simp,by go_num,HSK,HZ3⟩
    case measure=>simp[intOf];omega
   ·have hne0:a.text≠[]:=by rw[htx];simp
    have t0':wr.cell? ⟨gr,r1.length*4,none⟩=some (.string ⟨(ch::rest:aj).toArray⟩):=by rw[←htx];exact t0
    have HNE:=aa hne0
    clear t0 hne0
    replace htx:=aa htx
    cases hlp:fX f l a.text with
    |error er=>
     have HLP:Hid (fX f l a.text=.error er):=hlp
     have HEQ:Hid (dm f l0 r=.error (er,a.at_)):=by show _=_;rw[HR.out.eq,dm,if_neg HNE.out,hlp]
     clear hlp
     go_wp2_with fail
     refine(jg HR.out.nm HNM.out HR.out.hc HR.out.lc HLP.out).mono ?_
     rintro e w2 ⟨⟨b2,rfl,h3⟩,h4⟩
     replace h3:=aa h3
     replace h4:=aa h4
     go_wp2_with fail
     exact⟨rfl,Or.inr ⟨er,a.at_,HEQ.out,⟨b2,rfl,h3.out⟩,HR.out.kp.below h4.out⟩⟩
    |ok ml=>
     obtain⟨m,l'⟩:=ml
     have HLP:Hid (fX f l a.text=.ok (m,l')):=hlp
     clear hlp
     go_wp2_with fail
     refine(jU HR.out.nm HNM.out HR.out.hc HR.out.lc HR.out.le HAP.out.a1 HLP.out).mono ?_
     rintro e w2 ⟨rfl,hw,hlo,hle⟩
     have HST:=aa (HR.out.step HAP.out HNE.out HLP.out hw hlo hle)
     clear hw hlo hle
     go_wp2_with fail
     go_roundw
     case rel=>exact⟨r1.length+1,l',r1++[{a with num:=m}],r2,by simp,by go_num,HST,HZ3⟩
     case measure=>simp[intOf];omega
end
section
set_option maxRecDepth 100000
set_option maxHeartbeats 2000000
open Go.RowKit Go.Maps
theorem RI.below{w wr w':World}{bn bm n bf bl bs gr cr:Nat}{f:aj→Option (Nat×Nat)}{p:Ph}{sb:Value}{l0 l:Lc}{r r1 r2:List Pa}(h:RI w wr bn bm n bf bl bs gr cr f p sb l0 l r r1 r2)(k:Below wr.heap.size wr w'):RI w w' bn bm n bf bl bs gr cr f p sb l0 l r r1 r2:=
 ⟨h.nm.below k,by rw[k.cell (p:=⟨bf,1,none⟩) (ah (a:=⟨bf,1,none⟩) h.hc)];exact h.hc,h.lc.kept (ae.of_below (S:=fun _=>False) k) (fun e=>e),h.le,h.st.below k,ay h.row k,h.kp.below k,h.eq,h.len⟩
theorem pU{w:World}{bn bm n bf bl bs gr cr:Nat}{f:aj→Option (Nat×Nat)}{p:Ph}{sb:Value}{l0:Lc}{r:List Pa}(h:RI w w bn bm n bf bl bs gr cr f p sb l0 l0 r [] r)(ap:oB bn bm bf bl bs gr)(hpl:p.kind=1∧p.op=0){a0:Pa}{rr:List Pa}(hr0:r=a0::rr)(hff:cy f a0.text 0=none)(hz:∀a,a∈r→a.text.length≤1000000)(hrl:r.length≤1000000):
  Calls Tryz.prog 63 #[.pointer (some ⟨bn,0,none⟩),.pointer (some ⟨bf,0,none⟩),.pointer (some ⟨bs,0,none⟩)] w fun r' w'=>(∃r2 l',dm f l0 r=.ok (r2,l')∧r'=.returned (.tuple #[])∧RI w w' bn bm n bf bl bs gr cr f p sb l0 l' r r2 [])∨(∃e a,dm f l0 r=.error (e,a)∧cc w' r' e a∧ae (fun i=>i=bl∨i=gr) w w'):=by
 have HI:=aa h
 have HAP:=aa ap
 have HZ:=aa hz
 have c2:w.cell? ⟨bs,2,none⟩=some (.int .i64 p.kind):=h.st.cell 2
 have c6:w.cell? ⟨bs,6,none⟩=some (.int .i64 p.op):=h.st.cell 6
 have c12:w.cell? ⟨bs,12,none⟩=some (.slice (some ⟨gr,0,none⟩) r.length cr):=h.st.cell 12
 have HP:=aa (fA c2 c6)
 have HPB:Hid ((p.kind==1&&p.op==0)=true):=by show _=_;simp[hpl.1,hpl.2]
 have HNM0:Hid (iH w gr 0 ⟨a0.text.toArray⟩ a0.at_):=by
  show iH _ _ _ _ _
  have hz0:=hz a0 (by rw[hr0];simp)
  have h':RI w w bn bm n bf bl bs gr cr f p sb l0 l0 r [] (a0::rr):=hr0▸h
  have:=h'.name hz0
  simpa using this
 have HFF:=aa hff
 have hrl0:0< r.length:=by rw[hr0];simp
 clear h ap hz hpl hff hr0
 go_enter Tryz.func63,Tryz.ntmps63
 go_wp2_with fail
 refine HP.out.mono ?_
 rintro e wq ⟨rfl,hq⟩
 subst wq
 rw[HPB.out]
 go_wp2_with fail
 refine(qC HI.out.nm HNM0.out HFF.out).mono ?_
 rintro e w1 ⟨rfl,hb⟩
 have HI1:=aa (HI.out.below hb)
 have d12:w1.cell? ⟨bs,12,none⟩=some (.slice (some ⟨gr,0,none⟩) r.length cr):=HI1.out.st.cell 12
 clear hb c2 c6 c12
 go_wp2_with fail
 clear d12
 go_loopw [28] (fun i wr=>∃(k:Nat) (l:Lc) (r1 r2:List Pa),k=r1.length∧i=.int .i64 k∧Hid (RI w wr bn bm n bf bl bs gr cr f p sb l0 l r r1 r2)∧Hid (∀a,a∈r2→a.text.length≤1000000)) (fun i _=>r.length-(intOf i).toNat)
 case atStart=>exact⟨0,l0,[],r,rfl,rfl,HI1,HZ⟩
 case round=>
  obtain⟨k,l,r1,r2,hk,rfl,HR,HZ2⟩:=hrel
  have hlen:=HR.out.len
  have c12:wr.cell? ⟨bs,12,none⟩=some (.slice (some ⟨gr,0,none⟩) r.length cr):=HR.out.st.cell 12
  rcases r2 with _|⟨a,r2⟩
  ·have hkl:¬((k:Int)< (r.length:Int)):=by simp at hlen;omega
   have HEQ:Hid (dm f l0 r=.ok (r1,l)):=by show _=_;rw[HR.out.eq,dm];simp
   go_wp2_with fail
   first|go_end0|refine bodyPost_ret (results_none rfl _ _ _) rfl ?_
   exact Or.inl ⟨r1,l,HEQ.out,rfl,HR.out⟩
  ·have hkl:(k:Int)< (r.length:Int):=by simp at hlen;omega
   have hkn:k< r.length:=by omega
   have hsz:a.text.length≤1000000:=HZ2.out a (by simp)
   have HZ3:Hid (∀x,x∈r2→x.text.length≤1000000):=fun x hx=>HZ2.out x (by simp[hx])
   have HNM:=aa (HR.out.name hsz)
   subst hk
   have t0:=HNM.out.t0
   have hr1:r1.length≤1000000:=by omega
   rcases htx:a.text with _|⟨ch,rest⟩
   ·have HSK:=aa (HR.out.skip htx)
    rw[htx]at t0
    replace htx:=aa htx
    go_wp2_with fail
    go_roundw
    case rel=>exact⟨r1.length+1,l,r1++[a],r2,by simp,by go_num,HSK,HZ3⟩
    case measure=>simp[intOf];omega
   ·have hne0:a.text≠[]:=by rw[htx];simp
    have t0':wr.cell? ⟨gr,r1.length*4,none⟩=some (.string ⟨(ch::rest:aj).toArray⟩):=by rw[←htx];exact t0
    have HNE:=aa hne0
    clear t0 hne0
    replace htx:=aa htx
    cases hlp:fX f l a.text with
    |error er=>
     have HLP:Hid (fX f l a.text=.error er):=hlp
     have HEQ:Hid (dm f l0 r=.error (er,a.at_)):=by show _=_;rw[HR.out.eq,dm,if_neg HNE.out,hlp]
     clear hlp
     go_wp2_with fail
     refine(jg HR.out.nm HNM.out HR.out.hc HR.out.lc HLP.out).mono ?_
     rintro e w2 ⟨⟨b2,rfl,h3⟩,h4⟩
     replace h3:=aa h3
     replace h4:=aa h4
     go_wp2_with fail
     exact⟨rfl,Or.inr ⟨er,a.at_,HEQ.out,⟨b2,rfl,h3.out⟩,HR.out.kp.below h4.out⟩⟩
    |ok ml=>
     obtain⟨m,l'⟩:=ml
     have HLP:Hid (fX f l a.text=.ok (m,l')):=hlp
     clear hlp
     go_wp2_with fail
     refine(jU HR.out.nm HNM.out HR.out.hc HR.out.lc HR.out.le HAP.out.a1 HLP.out).mono ?_
     rintro e w2 ⟨rfl,hw,hlo,hle⟩
     have HST:=aa (HR.out.step HAP.out HNE.out HLP.out hw hlo hle)
     clear hw hlo hle
     go_wp2_with fail
     go_roundw
     case rel=>exact⟨r1.length+1,l',r1++[{a with num:=m}],r2,by simp,by go_num,HST,HZ3⟩
     case measure=>simp[intOf];omega
end
section
set_option maxRecDepth 100000
set_option maxHeartbeats 2000000
open Go.RowKit Go.Maps
theorem rH{w:World}{bn bm n bf bl bs gr cr m:Nat}{f:aj→Option (Nat×Nat)}{p:Ph}{sb:Value}{l0:Lc}{r:List Pa}(h:RI w w bn bm n bf bl bs gr cr f p sb l0 l0 r [] r)(ap:oB bn bm bf bl bs gr)(hpl:p.kind=1∧p.op=0){a0:Pa}{rr:List Pa}(hr0:r=a0::rr)(hff:cy f a0.text 0=some m)(hz:a0.text.length≤1000000):
  Calls Tryz.prog 63 #[.pointer (some ⟨bn,0,none⟩),.pointer (some ⟨bf,0,none⟩),.pointer (some ⟨bs,0,none⟩)] w fun r' w'=>r'=.returned (.tuple #[])∧∃w1,Below w.heap.size w w1∧w'=(w1.setCell ⟨gr,0+2,none⟩ (.int .i64 m)).setCell ⟨bs,2,none⟩ (.int .i64 2):=by
 have HI:=aa h
 have c2:w.cell? ⟨bs,2,none⟩=some (.int .i64 p.kind):=h.st.cell 2
 have c6:w.cell? ⟨bs,6,none⟩=some (.int .i64 p.op):=h.st.cell 6
 have c12:w.cell? ⟨bs,12,none⟩=some (.slice (some ⟨gr,0,none⟩) r.length cr):=h.st.cell 12
 have HP:=aa (fA c2 c6)
 have HPB:Hid ((p.kind==1&&p.op==0)=true):=by show _=_;simp[hpl.1,hpl.2]
 have HNM0:Hid (iH w gr 0 ⟨a0.text.toArray⟩ a0.at_):=by
  show iH _ _ _ _ _
  have h':RI w w bn bm n bf bl bs gr cr f p sb l0 l0 r [] (a0::rr):=hr0▸h
  have:=h'.name hz
  simpa using this
 have HFF:=aa hff
 have hrl0:0< r.length:=by rw[hr0];simp
 have hsg:=ap.a2
 have hgs:gr≠bs:=fun e=>hsg e.symm
 clear h ap hz hpl hff hr0
 go_enter Tryz.func63,Tryz.ntmps63
 go_wp2_with fail
 refine HP.out.mono ?_
 rintro e wq ⟨rfl,hq⟩
 subst wq
 rw[HPB.out]
 go_wp2_with fail
 refine(ol HI.out.nm HNM0.out HFF.out).mono ?_
 rintro e w2 ⟨rfl,w1,hb,hw⟩
 have HI1:=aa (HI.out.below hb)
 have hst:=HI1.out.st.setO gr (0+2) (.int .i64 m) hsg
 rw[←hw]at hst
 have d2:w2.cell? ⟨bs,2,none⟩=some (.int .i64 p.kind):=hst.cell 2
 have df:=hst.fz
 have HX:=aa (And.intro hb hw)
 clear hb hw c2 c6 c12 hst
 go_wp2_with fail
 first|go_end0|refine bodyPost_ret (results_none rfl _ _ _) rfl ?_
 exact⟨rfl,w1,HX.out.1,by rw[HX.out.2]⟩
end
section
open Go.RowKit Go.Maps
structure St where
 lc:Lc
 pl:Nat
 news:Nat
 gos:Nat
def lu(news gos:Nat)(p:Ph):Except Nat (Nat×Nat):=
 if p.kind=6 then(if news=6 then .error 8 else .ok (news+1,gos))else if p.kind=7 then(if gos=5 then .error 8 else .ok (news,gos+1))else .ok (news,gos)
def kF(f:aj→Option (Nat×Nat))(p:Ph)(r:List Pa):Option Nat:=match r with
 |[]=>none
 |a::_=>if p.kind=1∧p.op=0 then cy f a.text 0 else none
def lK(m:Nat):List Pa→List Pa
 |[]=>[]
 |a::r=>{a with num:=m}::r
def iL(f:aj→Option (Nat×Nat))(l:Lc)(p:Ph)(r:List Pa):Except (Nat×Nat) (Ph×List Pa×Lc):=match kF f p r with
 |some m=>.ok ({p with kind:=2},lK m r,l)
 |none=>match dm f l r with|.ok (r',l')=>.ok (p,r',l')|.error e=>.error e
def hH(f:aj→Option (Nat×Nat))(np:List Nat)(st:St)(p:Ph)(r:List Pa):Except (Nat×Nat) (St×Ph×List Pa):=
 if st.pl=48 then .error (8,p.at_)
 else match eO f st.lc {p with place:=st.pl}with
  |.error e=>.error (e,p.la)
  |.ok (p2,l2)=>match lu st.news st.gos p2 with
   |.error e=>.error (e,p.wa)
   |.ok (nw,gs)=>match eL f np r.length p2 with
    |.error e=>.error (e,p.na)
    |.ok p3=>match iL f l2 p3 r with
     |.error e=>.error e
     |.ok (p4,r',l')=>.ok (⟨l',st.pl+1,nw,gs⟩,p4,r')
mutual
def uc(f:aj→Option (Nat×Nat))(np:List Nat)(st:St):dx→Except (Nat×Nat) (St×dx)
 |.mk p r bls=>match hH f np st p r with
  |.error e=>.error e
  |.ok (st1,p',r')=>match kC f np st1 bls with
   |.error e=>.error e
   |.ok (st2,bls')=>.ok (st2,.mk p' r' bls')
def iQ(f:aj→Option (Nat×Nat))(np:List Nat)(st:St):List dx→Except (Nat×Nat) (St×List dx)
 |[]=>.ok (st,[])
 |s::l=>match uc f np st s with
  |.error e=>.error e
  |.ok (st1,s')=>match iQ f np st1 l with
   |.error e=>.error e
   |.ok (st2,l')=>.ok (st2,s'::l')
def kC(f:aj→Option (Nat×Nat))(np:List Nat)(st:St):List (List dx)→Except (Nat×Nat) (St×List (List dx))
 |[]=>.ok (st,[])
 |l::ls=>match iQ f np st l with
  |.error e=>.error e
  |.ok (st1,l')=>match kC f np st1 ls with
   |.error e=>.error e
   |.ok (st2,ls')=>.ok (st2,l'::ls')
end
structure Bx(p:Ph)(r:List Pa):Prop where
 lt:p.lt.length≤1000000
 nt:p.nt.length≤1000000
 rs:∀a,a∈r→a.text.length≤1000000
 rl:r.length≤1000000
 r0:p.kind=1∧p.op=0→r≠[]
mutual
def rq:dx→Prop
 |.mk p r bls=>Bx p r∧km bls∧bls.length≤1000000
def fJ:List dx→Prop
 |[]=>True
 |s::l=>rq s∧fJ l
def km:List (List dx)→Prop
 |[]=>True
 |l::ls=>(fJ l∧l.length≤1000000)∧km ls
end
mutual
def qF:dx→List Ph
 |.mk p _ bls=>p::gK bls
def eA:List dx→List Ph
 |[]=>[]
 |s::l=>qF s++eA l
def gK:List (List dx)→List Ph
 |[]=>[]
 |l::ls=>eA l++gK ls
end
end
section
open Go.RowKit Go.Maps
def iS(k:Nat):Nat:=if k=1 then 3 else 5
def my(c:Nat→Nat)(k:Nat):Nat→Nat:=fun j=>if j=k then c k+1 else c j
def cq(f:aj→Option (Nat×Nat))(c:Nat→Nat):List Pd→Except (Nat×Nat) (List Pd×(aj→Option (Nat×Nat))×(Nat→Nat))
 |[]=>.ok ([],f,c)
 |d::l=>if(f d.name).isSome=true then .error (7,d.at_)else if c d.kind=iS d.kind then .error (8,d.at_)
  else match cq (putF f d.name (d.kind,c d.kind)) (my c d.kind) l with
   |.error e=>.error e
   |.ok (l',f',c')=>.ok ({d with num:=c d.kind}::l',f',c')
end
section
open Go.RowKit Go.Maps
def fe(f:aj→Option (Nat×Nat))(l:Lc)(i:Nat):List Pn→Except (Nat×Nat) (List Pn×Lc)
 |[]=>.ok ([],l)
 |t::r=>if(f t.text).isSome=true∨(l.g t.text).isSome=true then .error (7,t.at_)else if i=3 then .error (8,t.at_)
  else match fe f ⟨fun s=>if s=t.text then some i else l.g s,l.c+1⟩ (i+1) r with
   |.error e=>.error e
   |.ok (r',l')=>.ok ({t with num:=i}::r',l')
def xL(f:aj→Option (Nat×Nat))(d:Pd):Except (Nat×Nat) (Pd×Lc):=match fe f ⟨fun _=>none,0⟩ 0 d.params with
 |.error e=>.error e
 |.ok (r,l)=>.ok ({d with params:=r},l)
def dk(n:Nat):List Pd→List Nat
 |[]=>[]
 |d::l=>if d.kind=2 then n::dk (n+1) l else dk (n+1) l
def eU(f:aj→Option (Nat×Nat)):List Nat→List Pd→Except (Nat×Nat) (List Pd×List Lc)
 |[],l=>.ok (l,[])
 |k::ks,l=>match l[k]? with
  |none=>.ok (l,[])
  |some d=>match xL f d with
   |.error e=>.error e
   |.ok (d',lc)=>match eU f ks (l.set k d')with
    |.error e=>.error e
    |.ok (l',lcs)=>.ok (l',lc::lcs)
def hZ(f:aj→Option (Nat×Nat))(np:List Nat):List (Nat×Lc)→Nat→Nat→Nat→List Pd→Except (Nat×Nat) (List Pd×List Ph)
 |[],_,_,_,l=>.ok (l,[])
 |(k,lc)::ks,pl,news,gos,l=>match l[k]? with
  |none=>.ok (l,[])
  |some d=>match iQ f np ⟨lc,pl,news,gos⟩ d.body with
   |.error e=>.error e
   |.ok (st,b)=>match hZ f np ks st.pl st.news st.gos (l.set k {d with body:=b,locals:=st.lc.c})with
    |.error e=>.error e
    |.ok (l',hs)=>.ok (l',eA b++hs)
def iB(f:aj→Option (Nat×Nat))(np:List Nat):Bool:=match cy f [109,97,105,110] 2 with
 |none=>false
 |some m=>np[m]?==some 0
def gY(l:List Pd):List Nat:=(l.filter (fun d=>d.kind==2)).map (fun d=>d.params.length)
def du(l:List Pd):Except (Nat×Nat) (List Pd×List Ph):=match cq (fun _=>none) (fun _=>0) l with
 |.error e=>.error e
 |.ok (l1,f,_)=>match eU f (dk 0 l1) l1 with
  |.error e=>.error e
  |.ok (l2,lcs)=>match hZ f (gY l1) ((dk 0 l1).zip lcs) 0 0 0 l2 with
   |.error e=>.error e
   |.ok l3=>if iB f (gY l1)then .ok l3 else .error (11,0)
end
end Go.Proofs.YtmdaflepdaiabaaGreatDoor
