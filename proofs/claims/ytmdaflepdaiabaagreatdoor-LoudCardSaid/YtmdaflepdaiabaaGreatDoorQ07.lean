import Derived.Test.YtmdaflepdaiabaaGreatDoorQ06
set_option linter.unusedSimpArgs false
set_option linter.unusedVariables false
namespace Go.Proofs.YtmdaflepdaiabaaGreatDoor
section
open Go.RowKit Go.Maps
theorem fy{f:aj→Option (Nat×Nat)}{l:Lc}{p:Ph}{r:List Pa}(h:kF f p r=none):iL f l p r=match dm f l r with|.ok (r',l')=>.ok (p,r',l')|.error e=>.error e:=by unfold iL;rw[h];rfl
theorem oh{f:aj→Option (Nat×Nat)}{p:Ph}{r:List Pa}(h:¬(p.kind=1∧p.op=0)):kF f p r=none:=by
 unfold kF
 split
 ·rfl
 ·rw[if_neg h]
theorem rY{f:aj→Option (Nat×Nat)}{l l':Lc}{p p':Ph}(h:eO f l p=.ok (p',l')):∃m k,p'={p with ln:=m,kind:=k}∧(k=p.kind∨k=3):=by
 unfold eO at h
 split at h
 ·cases h;exact⟨p.ln,p.kind,rfl,Or.inl rfl⟩
 ·split at h
  ·cases h;exact⟨_,3,rfl,Or.inr rfl⟩
  ·split at h
   ·cases h
   ·cases h;exact⟨_,p.kind,rfl,Or.inl rfl⟩
theorem qv{f:aj→Option (Nat×Nat)}{np:List Nat}{rl:Nat}{p p':Ph}(h:eL f np rl p=.ok p'):∃m,p'={p with nn:=m}:=by
 unfold eL at h
 repeat' split at h
 all_goals first|(cases h;exact⟨_,rfl⟩)|cases h
theorem mq{f:aj→Option (Nat×Nat)}{np:List Nat}{rl:Nat}{p:Ph}(h:p.kind≠9∧p.kind≠10∧p.kind≠7∧p.kind≠11):eL f np rl p=.ok p:=by
 unfold eL
 rw[if_neg (by omega),if_neg (by omega)]
structure sX(w:World)(Q:Nat→Prop)(fv:Value)(np:List Nat):Prop where
 ex:∃pf cf,fv=.slice pf np.length cf∧∀m k,np[m]?=some k→∃gf bf bd pp cp,Q gf∧Q bf∧Q bd∧pf=some ⟨gf,0,none⟩∧w.cell? ⟨gf,m,none⟩=some (ak bf)∧w.cell? ⟨bf,0,none⟩=some (ak bd)∧w.cell? ⟨bd,4,none⟩=some (.slice pp k cp)
theorem sX.kept{S:Nat→Prop}{w w':World}{Q:Nat→Prop}{fv:Value}{np:List Nat}(h:sX w Q fv np)(k:ae S w w')(hS:∀i,Q i→¬S i):sX w' Q fv np:=by
 obtain⟨pf,cf,e,hx⟩:=h.ex
 refine⟨pf,cf,e,fun m j hm=>?_⟩
 obtain⟨gf,bf,bd,pp,cp,q1,q2,q3,e1,e2,e3,e4⟩:=hx m j hm
 exact⟨gf,bf,bd,pp,cp,q1,q2,q3,e1,by rw[k.cell (p:=⟨gf,m,none⟩) (ah e2) (hS gf q1)];exact e2,by rw[k.cell (p:=⟨bf,0,none⟩) (ah e3) (hS bf q2)];exact e3,by rw[k.cell (p:=⟨bd,4,none⟩) (ah e4) (hS bd q3)];exact e4⟩
theorem ae.below'{S:Nat→Prop}{a b c:World}(h:ae S a b)(k:Below a.heap.size b c):ae S a c:=
 (h.mono (T:=S) (fun _ e=>e)).trans' (S:=S) (T:=fun i=>a.heap.size≤i) ⟨k.os,k.tape,k.output,k.size,fun i hi hs=>k.block i (by omega)⟩ (fun i e=>Or.inr e)
def tu(bp bm:Nat)(fv:Value)(news gos:Nat):Array Value:=#[ak bp,.map (some bm),fv,.int .i64 news,.int .i64 gos]
structure NB(w:World)(bn bm bp n:Nat)(f:aj→Option (Nat×Nat))(Q:Nat→Prop)(np:List Nat)(fv:Value)(news gos:Nat):Prop where
 nb:an w bn (tu bp bm fv news gos)
 th:dc w bm n f
 fx:sX w Q fv np
 n6:news≤6
 g5:gos≤5
section
variable {w w':World} {bn bm bp n:Nat} {f:aj→Option (Nat×Nat)} {Q:Nat→Prop} {np:List Nat} {fv:Value} {news gos:Nat}
theorem NB.nm(h:NB w bn bm bp n f Q np fv news gos):NM w bn bm n f:=⟨h.nb.cell 1,h.th⟩
theorem NB.cnt(h:NB w bn bm bp n f Q np fv news gos):Az w bn news gos:=⟨h.nb.cell 3,h.nb.cell 4,h.nb.fz 3,h.nb.fz 4,h.n6,h.g5⟩
theorem NB.fns(h:NB w bn bm bp n f Q np fv news gos):Cg w Q bn np:=by
 obtain⟨pf,cf,e,hx⟩:=h.fx.ex
 exact⟨pf,cf,by rw[←e];exact h.nb.cell 2,hx⟩
theorem NB.kept{S:Nat→Prop}(h:NB w bn bm bp n f Q np fv news gos)(k:ae S w w')(h1:¬S bn)(h2:¬S bm)(h3:∀i,Q i→¬S i):NB w' bn bm bp n f Q np fv news gos:=
 ⟨h.nb.kept k h1,h.th.kept k h2,h.fx.kept k h3,h.n6,h.g5⟩
theorem rX{bs:Nat}{p:Ph}{sr sb:Value}(h:NB w bn bm bp n f Q np fv news gos)(hS:an w bs (aK p sr sb))(hne:bs≠bn)(hbm:bm≠bn)(hq:∀i,Q i→i≠bn):
  Calls Tryz.prog 61 #[.pointer (some ⟨bn,0,none⟩),.pointer (some ⟨bs,0,none⟩)] w fun r w'=>ae (ao bn) w w'∧((∃nw gs,lu news gos p=.ok (nw,gs)∧r=.returned (.tuple #[])∧NB w' bn bm bp n f Q np fv nw gs)∨(∃e,lu news gos p=.error e∧cc w' r e p.wa)):=by
 have c2:w.cell? ⟨bs,2,none⟩=some (.int .i64 p.kind):=hS.cell 2
 have c8:w.cell? ⟨bs,8,none⟩=some (.int .i64 p.wa):=hS.cell 8
 have hn6:=h.n6
 have hg5:=h.g5
 by_cases k6:p.kind=6
 ·by_cases e6:news=6
  ·refine(lp h.cnt c2 c8 hne k6 e6).mono ?_
   rintro r w' ⟨h1,h2⟩
   exact⟨((ae.refl (ao bn) w).set1 3 _).trans' (ae.of_below (S:=fun _=>False) (h2.mono (by simp[World.setCell]))) (fun i e=>e.elim),Or.inr ⟨8,by unfold lu;rw[if_pos k6,if_pos e6],h1⟩⟩
  ·refine(rW h.cnt c2 c8 hne k6 (by omega)).mono ?_
   rintro r w' ⟨rfl,rfl⟩
   have k:=(ae.refl (ao bn) w).set1 3 (.int .i64 ((news:Int)+1))
   refine⟨k,Or.inl ⟨news+1,gos,by unfold lu;rw[if_pos k6,if_neg e6],rfl,?_,h.th.kept k hbm,h.fx.kept k hq,by omega,h.g5⟩⟩
   exact h.nb.set 3 _ (show 3< 5 by decide)
 ·by_cases k7:p.kind=7
  ·by_cases e5:gos=5
   ·refine(mt h.cnt c2 c8 hne k7 e5).mono ?_
    rintro r w' ⟨h1,h2⟩
    exact⟨((ae.refl (ao bn) w).set1 4 _).trans' (ae.of_below (S:=fun _=>False) (h2.mono (by simp[World.setCell]))) (fun i e=>e.elim),Or.inr ⟨8,by unfold lu;rw[if_neg k6,if_pos k7,if_pos e5],h1⟩⟩
   ·refine(um h.cnt c2 c8 hne k7 (by omega)).mono ?_
    rintro r w' ⟨rfl,rfl⟩
    have k:=(ae.refl (ao bn) w).set1 4 (.int .i64 ((gos:Int)+1))
    refine⟨k,Or.inl ⟨news,gos+1,by unfold lu;rw[if_neg k6,if_pos k7,if_neg e5],rfl,?_,h.th.kept k hbm,h.fx.kept k hq,h.n6,by omega⟩⟩
    exact h.nb.set 4 _ (show 4< 5 by decide)
  ·refine(pc h.cnt c2 c8 hne k6 k7).mono ?_
   rintro r w' ⟨rfl,rfl⟩
   exact⟨ae.refl _ _,Or.inl ⟨news,gos,by unfold lu;rw[if_neg k6,if_neg k7],rfl,h⟩⟩
theorem qs{bs rl:Nat}{p:Ph}{pr:Option Addr}{cr:Nat}{sb:Value}(h:NB w bn bm bp n f Q np fv news gos)(hS:an w bs (aK p (.slice pr rl cr) sb))(hz:p.nt.length≤1000000)(hne:bs≠bn)(hq:¬Q bs)(hfm:∀t m,cy f t 2=some m→m< np.length)(hpl:np.length≤1000000):
  Calls Tryz.prog 62 #[.pointer (some ⟨bn,0,none⟩),.pointer (some ⟨bs,0,none⟩)] w fun r w'=>ae (ao bs) w w'∧((∃p',eL f np rl p=.ok p'∧r=.returned (.tuple #[])∧an w' bs (aK p' (.slice pr rl cr) sb))∨(∃e,eL f np rl p=.error e∧cc w' r e p.na)):=by
 by_cases k9:p.kind=9∨p.kind=10
 ·cases hff:cy f p.nt 1 with
  |none=>
   refine(oX h.nm hS hz k9 hff).mono ?_
   rintro r w' ⟨h1,h2⟩
   exact⟨ae.of_below h2,Or.inr ⟨9,by unfold eL;rw[if_pos k9,hff],h1⟩⟩
  |some m=>
   refine(rR h.nm hS hz k9 hff).mono ?_
   rintro r w' ⟨rfl,w1,h2,rfl⟩
   exact⟨(ae.of_below (S:=ao bs) h2).set1 11 _,Or.inl ⟨{p with nn:=m},by unfold eL;rw[if_pos k9,hff],rfl,(hS.below h2).set 11 _ (show 11< 14 by decide)⟩⟩
 ·by_cases k7:p.kind=7∨p.kind=11
  ·cases hff:cy f p.nt 2 with
   |none=>
    refine(oY h.nm hS hz k7 hff).mono ?_
    rintro r w' ⟨h1,h2⟩
    exact⟨ae.of_below h2,Or.inr ⟨9,by unfold eL;rw[if_neg k9,if_pos k7,hff],h1⟩⟩
   |some m=>
    have hm:=hfm _ _ hff
    obtain⟨k,hk⟩:∃k,np[m]?=some k:=⟨_,List.getElem?_eq_getElem hm⟩
    refine(rS h.nm h.fns hS hz k7 hff hk hne (by omega) hpl hq).mono ?_
    rintro r w' ⟨w1,h2,h3⟩
    have k1:ae (ao bs) w ((w1.setCell ⟨bs,9+2,none⟩ (.int .i64 m)).drew):=((ae.of_below (S:=ao bs) h2).set1 11 _).drew
    rcases h3 with⟨e,rfl,rfl⟩|⟨e,h3,h4⟩
    ·refine⟨k1,Or.inl ⟨{p with nn:=m},by unfold eL;rw[if_neg k9,if_pos k7,hff];simp only;rw[if_pos (by rw[hk,e])],rfl,?_⟩⟩
     exact((hS.below h2).set 11 _ (show 11< 14 by decide)).below ((Below.refl _ _).drew)
    ·exact⟨k1.below' h4,Or.inr ⟨10,by unfold eL;rw[if_neg k9,if_pos k7,hff];simp only;rw[if_neg (by rw[hk];simpa using e)],h3⟩⟩
  ·refine(qu h.nm hS hz (by omega)).mono ?_
   rintro r w' ⟨rfl,rfl⟩
   exact⟨ae.refl _ _,Or.inl ⟨p,mq (by omega),rfl,hS⟩⟩
end
end
section
set_option maxRecDepth 100000
set_option maxHeartbeats 1000000
open Go.RowKit Go.Maps
structure FW(w:World)(bf bl:Nat)(l:Lc):Prop where
 hc:w.cell? ⟨bf,1,none⟩=some (.map (some bl))
 lc:dF w bl l.c l.g
 le:l.c≤6
theorem FW.kept{S:Nat→Prop}{w w':World}{bf bl:Nat}{l:Lc}(h:FW w bf bl l)(k:ae S w w')(h1:¬S bf)(h2:¬S bl):FW w' bf bl l:=
 ⟨by rw[k.cell (p:=⟨bf,1,none⟩) (ah (a:=⟨bf,1,none⟩) h.hc) h1];exact h.hc,h.lc.kept k h2,h.le⟩
theorem tQ{w:World}{bn bf bs cr:Nat}{pr:Option Addr}{p:Ph}{sb:Value}(hS:an w bs (aK p (.slice pr 0 cr) sb))(hpl:¬(p.kind=1∧p.op=0)):
  Calls Tryz.prog 63 #[.pointer (some ⟨bn,0,none⟩),.pointer (some ⟨bf,0,none⟩),.pointer (some ⟨bs,0,none⟩)] w fun r w'=>r=.returned (.tuple #[])∧w'=w:=by
 have c2:w.cell? ⟨bs,2,none⟩=some (.int .i64 p.kind):=hS.cell 2
 have c6:w.cell? ⟨bs,6,none⟩=some (.int .i64 p.op):=hS.cell 6
 have c12:w.cell? ⟨bs,12,none⟩=some (.slice pr 0 cr):=hS.cell 12
 have HP:=aa (fA c2 c6)
 have HPB:Hid ((p.kind==1&&p.op==0)=false):=by show _=_;rw[Bool.eq_false_iff];intro e;simp at e;exact hpl e
 clear hS hpl
 go_enter Tryz.func63,Tryz.ntmps63
 go_wp2_with fail
 refine HP.out.mono ?_
 rintro e wq ⟨rfl,hq⟩
 subst wq
 rw[HPB.out]
 go_wp2_with fail
 clear c2 c6 c12
 go_loopw [28] (fun i wr=>i=.int .i64 0∧wr=w) (fun _ _=>0)
 case atStart=>exact⟨rfl,rfl⟩
 case round=>
  obtain⟨rfl,rfl⟩:=hrel
  go_wp2_with fail
  first|go_end0|refine bodyPost_ret (results_none rfl _ _ _) rfl ?_
  exact⟨rfl,rfl⟩
structure RW(w':World)(bl bs:Nat)(p:Ph)(sr sb:Value)(r:List Pa)(l:Lc):Prop where
 st:an w' bs (aK p sr sb)
 row:w'.ownsRow 0 193 4 sr r.length (et r)
 lc:dF w' bl l.c l.g
 le:l.c≤6
abbrev BD(bl bs:Nat)(sr:Value):Nat→Prop:=fun i=>i=bl∨i=bs∨sr.ownBlock=some i
theorem qo{w:World}{bn bm bp n bf bl bs:Nat}{f:aj→Option (Nat×Nat)}{Q:Nat→Prop}{np:List Nat}{fv:Value}{news gos:Nat}{p:Ph}{sr sb:Value}{l:Lc}{r:List Pa}(hN:NB w bn bm bp n f Q np fv news gos)(hF:FW w bf bl l)(hS:an w bs (aK p sr sb))(hrow:w.ownsRow 0 193 4 sr r.length (et r))(hz:∀a,a∈r→a.text.length≤1000000)(hrl:r.length≤1000000)(h0:p.kind=1∧p.op=0→r≠[])(ap:∀g,sr.ownBlock=some g→oB bn bm bf bl bs g)(hne:bs≠bl):
  Calls Tryz.prog 63 #[.pointer (some ⟨bn,0,none⟩),.pointer (some ⟨bf,0,none⟩),.pointer (some ⟨bs,0,none⟩)] w fun r' w'=>ae (BD bl bs sr) w w'∧((∃p' r2 l',iL f l p r=.ok (p',r2,l')∧r'=.returned (.tuple #[])∧r2.length=r.length∧RW w' bl bs p' sr sb r2 l')∨(∃e a,iL f l p r=.error (e,a)∧cc w' r' e a)):=by
 rcases r with _|⟨a0,rr⟩
 ·obtain⟨pr,cr,rfl⟩:=ai hrow
  have hpl:¬(p.kind=1∧p.op=0):=fun e=>h0 e rfl
  refine(tQ hS hpl).mono ?_
  rintro r' w' ⟨rfl,rfl⟩
  exact⟨ae.refl _ _,Or.inl ⟨p,[],l,by rw[fy (oh hpl)];rfl,rfl,rfl,hS,hrow,hF.lc,hF.le⟩⟩
 ·obtain⟨gr,cr,rfl⟩:=aG hrow (by simp)
  have hap:=ap gr rfl
  generalize hr:a0::rr=r at *
  have hI:RI w w bn bm n bf bl bs gr cr f p sb l l r [] r:=⟨hN.nm,hF.hc,hF.lc,hF.le,hS,by simpa using hrow,ae.refl _ _,by cases dm f l r with|ok x=>rfl|error e=>rfl,by simp⟩
  have hk:∀{w':World},ae (fun i=>i=bl∨i=gr) w w'→ae (BD bl bs (.slice (some ⟨gr,0,none⟩) r.length cr)) w w':=fun k=>k.mono (fun i e=>e.elim Or.inl (fun e=>Or.inr (Or.inr (by rw[e];rfl))))
  have fin:∀{w':World} {r2:List Pa} {l':Lc},RI w w' bn bm n bf bl bs gr cr f p sb l l' r r2 []→r2.length=r.length∧RW w' bl bs p (.slice (some ⟨gr,0,none⟩) r.length cr) sb r2 l':=fun{w' r2 l'} hi=>by
   have hlen:r2.length=r.length:=by have:=hi.len;simpa using this
   refine⟨hlen,hi.st,?_,hi.lc,hi.le⟩
   have:=hi.row
   rw[hlen]
   simpa using this
  by_cases hpl:p.kind=1∧p.op=0
  ·have hld:kF f p r=cy f a0.text 0:=by rw[←hr];show(if p.kind=1∧p.op=0 then cy f a0.text 0 else none)=_;rw[if_pos hpl]
   cases hff:cy f a0.text 0 with
   |none=>
    rw[hff]at hld
    refine(pU hI hap hpl hr.symm hff hz hrl).mono ?_
    rintro r' w' (⟨r2,l',h1,rfl,h2⟩|⟨e,a,h1,h2,h3⟩)
    ·exact⟨hk h2.kp,Or.inl ⟨p,r2,l',by rw[fy hld,h1],rfl,(fin h2).1,(fin h2).2⟩⟩
    ·exact⟨hk h3,Or.inr ⟨e,a,by rw[fy hld,h1],h2⟩⟩
   |some m=>
    rw[hff]at hld
    refine(rH hI hap hpl hr.symm hff (hz a0 (by rw[←hr];simp))).mono ?_
    rintro r' w' ⟨rfl,w1,h1,rfl⟩
    have k1:ae (BD bl bs (.slice (some ⟨gr,0,none⟩) r.length cr)) w ((w1.setCell ⟨gr,0+2,none⟩ (.int .i64 m)).setCell ⟨bs,2,none⟩ (.int .i64 2)):=((ae.of_below h1).setCell (p:=⟨gr,0+2,none⟩) (Or.inl (Or.inr (Or.inr rfl))) _).setCell (p:=⟨bs,2,none⟩) (Or.inl (Or.inr (Or.inl rfl))) _
    have k2:ae (fun i=>i=gr∨i=bs) w ((w1.setCell ⟨gr,0+2,none⟩ (.int .i64 m)).setCell ⟨bs,2,none⟩ (.int .i64 2)):=((ae.of_below h1).setCell (p:=⟨gr,0+2,none⟩) (Or.inl (Or.inl rfl)) _).setCell (p:=⟨bs,2,none⟩) (Or.inl (Or.inr rfl)) _
    refine⟨k1,Or.inl ⟨{p with kind:=2},lK m r,l,by unfold iL;rw[hld],rfl,by rw[←hr];rfl,?_,?_,hF.lc.kept k2 (fun e=>by rcases e with e|e;exact hap.a1 e.symm;exact hne e.symm),hF.le⟩⟩
    ·exact((hS.below h1).setO gr (0+2) _ hap.a2).set 2 _ (show 2< 14 by decide)
    ·have hlen:(lK m r).length=r.length:=by rw[←hr];rfl
     rw[hlen]
     have hrow1:=ay hrow h1
     have hput:=oV (w':=(w1.setCell ⟨gr,0+2,none⟩ (.int .i64 m)).setCell ⟨bs,2,none⟩ (.int .i64 2)) hrow1 rfl (j:=2) (u:=.int .i64 m) (by rw[←hr];simp;omega) (fun cur hh=>by
      have hg:gr< w1.heap.size:=by
       rcases Nat.lt_or_ge gr w1.heap.size with x|x
       ·exact x
       ·rw[Array.getElem?_eq_none x]at hh;cases hh
      rw[((ae.refl (ao bs) (w1.setCell ⟨gr,0+2,none⟩ (.int .i64 m))).set1 2 (.int .i64 2)).block gr (by simpa[World.setCell]using hg) (fun e=>hap.a2 (e:gr=bs).symm)]
      exact heap_setCell hh _ _)
     have:(et r).set 2 (.int .i64 m)=et (lK m r):=by rw[←hr];exact qi [] rr a0 m
     rw[←this]
     exact hput
  ·have hld:kF f p r=none:=oh hpl
   refine(tP hI hap hpl hz hrl).mono ?_
   rintro r' w' (⟨r2,l',h1,rfl,h2⟩|⟨e,a,h1,h2,h3⟩)
   ·exact⟨hk h2.kp,Or.inl ⟨p,r2,l',by rw[fy hld,h1],rfl,(fin h2).1,(fin h2).2⟩⟩
   ·exact⟨hk h3,Or.inr ⟨e,a,by rw[fy hld,h1],h2⟩⟩
end
section
open Go.RowKit Go.Maps
structure Ev where
 bn:Nat
 bm:Nat
 bp:Nat
 n:Nat
 B:Nat
 f:aj→Option (Nat×Nat)
 Q:Nat→Prop
 np:List Nat
 fv:Value
 dv:Value
structure Bv(E:Ev)(bf bl:Nat):Prop where
 nm:E.bn≠E.bm
 np:E.bn≠E.bp
 nl:E.bn≠bl
 mp:E.bm≠E.bp
 ml:E.bm≠bl
 pl:E.bp≠bl
 fn:bf≠E.bn
 fp:bf≠E.bp
 fl:bf≠bl
 lt:E.bn< E.B∧E.bm< E.B∧E.bp< E.B∧bf< E.B∧bl< E.B
 q:∀i,E.Q i→i< E.B∧i≠E.bn∧i≠E.bp∧i≠bl
 fm:∀t m,cy E.f t 2=some m→m< E.np.length
 few:E.np.length≤1000000
def Fp(E:Ev)(bf bl:Nat)(P:Nat→Prop):Prop:=∀i,P i→i< E.B∧i≠E.bn∧i≠E.bm∧i≠E.bp∧i≠bf∧i≠bl∧¬E.Q i
def iD(E:Ev)(bl:Nat)(P:Nat→Prop):Nat→Prop:=fun i=>P i∨i=E.bn∨i=E.bp∨i=bl∨E.B≤i
theorem iD.mono{E:Ev}{bl:Nat}{P P':Nat→Prop}(h:∀i,P i→P' i):∀i,iD E bl P i→iD E bl P' i:=fun i e=>e.elim (fun x=>Or.inl (h i x)) Or.inr
theorem iD.not{E:Ev}{bf bl:Nat}{P:Nat→Prop}(hs:Bv E bf bl){i:Nat}(hi:i< E.B∧i≠E.bn∧i≠E.bm∧i≠E.bp∧i≠bf∧i≠bl∧¬E.Q i)(hP:¬P i):¬iD E bl P i:=fun e=>by
 rcases e with e|e|e|e|e
 ·exact hP e
 ·exact hi.2.1 e
 ·exact hi.2.2.2.1 e
 ·exact hi.2.2.2.2.2.1 e
 ·omega
structure NW(w:World)(E:Ev)(st:St)(lv:Value)(done:List Nat):Prop where
 nb:NB w E.bn E.bm E.bp E.n E.f E.Q E.np E.fv st.news st.gos
 pb:an w E.bp #[E.dv,lv]
 own:w.ownsRow E.B 133 1 lv done.length (dW done)
 pl:done.length=st.pl
 p48:st.pl≤48
 le:E.B≤w.heap.size
theorem NW.kept{S:Nat→Prop}{w w':World}{E:Ev}{st:St}{lv:Value}{done:List Nat}(h:NW w E st lv done)(k:ae S w w')(hS:∀i,S i→i< E.B∧i≠E.bn∧i≠E.bm∧i≠E.bp∧¬E.Q i):NW w' E st lv done:=
 ⟨h.nb.kept k (fun e=>(hS _ e).2.1 rfl) (fun e=>(hS _ e).2.2.1 rfl) (fun i hi e=>(hS i e).2.2.2.2 hi),h.pb.kept k (fun e=>(hS _ e).2.2.2.1 rfl),aU h.own k (fun i e=>(hS i e).1),h.pl,h.p48,Nat.le_trans h.le k.size⟩
inductive fC(w:World)(P:Nat→Prop):List Nat→List Ph→Prop
 |nil:fC w P [] []
 |cons {b:Nat} {p:Ph} {sr sb:Value} {L:List Nat} {hs:List Ph}:P b→an w b (aK p sr sb)→fC w P L hs→fC w P (b::L) (p::hs)
theorem fC.keep{w w':World}{P P' S:Nat→Prop}(k:ae S w w')(h0:∀b,P b→¬S b∧P' b){L:List Nat}{hs:List Ph}(h:fC w P L hs):fC w' P' L hs:=by
 induction h with
 |nil=>exact fC.nil
 |cons h1 h2 _ ih=>exact fC.cons (h0 _ h1).2 (h2.kept k (h0 _ h1).1) ih
theorem fC.app{w:World}{P:Nat→Prop}{L L':List Nat}{hs hs':List Ph}(h:fC w P L hs)(h':fC w P L' hs'):fC w P (L++L') (hs++hs'):=by
 induction h with
 |nil=>exact h'
 |cons h1 h2 _ ih=>exact fC.cons h1 h2 ih
def xg{α:Type}(w w':World)(E:Ev)(bf bl:Nat)(P:Nat→Prop)(done:List Nat)(R:Except (Nat×Nat) (St×α))(hd:α→List Ph)(T:World→α→Prop)(r:Ending):Prop:=
 ae (iD E bl P) w w'∧((∃st' x lv' L,R=.ok (st',x)∧r=.returned (.tuple #[])∧NW w' E st' lv' (done++L)∧FW w' bf bl st'.lc∧T w' x∧fC w' P L (hd x))∨(∃e a,R=.error (e,a)∧cc w' r e a))
def gH(s:dx):Prop:=∀(w:World) (E:Ev) (bf bl b:Nat) (P:Nat→Prop) (st:St) (lv:Value) (done:List Nat),NW w E st lv done→FW w bf bl st.lc→Bv E bf bl→Fp E bf bl P→fI w P b s→rq s→
 Calls Tryz.prog 44 #[.pointer (some ⟨E.bn,0,none⟩),.pointer (some ⟨bf,0,none⟩),.pointer (some ⟨b,0,none⟩)] w fun r w'=>xg w w' E bf bl P done (uc E.f E.np st s) qF (fun w' s'=>fI w' P b s') r
def jb(l:List dx):Prop:=∀(w:World) (E:Ev) (bf bl:Nat) (P P':Nat→Prop) (bb:List Nat) (v:Value) (st:St) (lv:Value) (done:List Nat),NW w E st lv done→FW w bf bl st.lc→Bv E bf bl→Fp E bf bl P→Fp E bf bl P'→(∀i,P' i→¬P i)→cA w P' 133 1 v bb.length (dW bb)→bB w P bb l→fJ l→l.length≤1000000→
 Calls Tryz.prog 30 #[.pointer (some ⟨E.bn,0,none⟩),.pointer (some ⟨bf,0,none⟩),v] w fun r w'=>xg w w' E bf bl P done (iQ E.f E.np st l) eA (fun w' l'=>bB w' P bb l') r
theorem bB.len{w:World}{P:Nat→Prop}{bs:List Nat}{l:List dx}(h:bB w P bs l):bs.length=l.length:=by
 induction bs generalizing l P with
 |nil=>cases h;rfl
 |cons b bs ih=>cases h with|cons h1 h2 hq hr=>simp[ih h2]
theorem cD.len{w:World}{P:Nat→Prop}{vs:List Value}{ls:List (List dx)}(h:cD w P vs ls):vs.length=ls.length:=by
 induction vs generalizing ls P with
 |nil=>cases h;rfl
 |cons b bs ih=>cases h with|cons h1 h2 h3 hq hr=>simp[ih h3]
theorem cA.mono{w:World}{P P':Nat→Prop}{e size n:Nat}{v:Value}{xs:List Value}(h:cA w P e size v n xs)(hp:∀i,v.ownBlock=some i→P i→P' i):cA w P' e size v n xs:=⟨h.1,fun k hk=>hp k hk (h.2 k hk)⟩
theorem cD.snoc{w:World}{P P' Q R:Nat→Prop}{vs:List Value}{ls:List (List dx)}{v:Value}{bb:List Nat}{l:List dx}(h:cD w P vs ls)(hrow:cA w R 133 1 v bb.length (dW bb))(hl:bB w Q bb l)(h1:∀i,P i→P' i∧¬R i)(hR:∀i,R i→P' i)(hQ:∀i,Q i→R i∧v.ownBlock≠some i):cD w P' (vs++[v]) (ls++[l]):=by
 induction vs generalizing ls P P' with
 |nil=>
  cases h
  exact cD.cons (R:=fun _=>False) (hrow.mono (fun i _ hi=>hR i hi)) hl cD.nil (fun i hi=>⟨hR i (hQ i hi).1,(hQ i hi).2,fun e=>e⟩) (fun i e=>e.elim)
 |cons u vs ih=>
  cases h with
  |@cons _ Q0 R0 _ bb0 _ l0 ls0 g1 g2 g3 hq hr=>
   exact cD.cons (R:=fun i=>R0 i∨R i) (g1.mono (fun i _ hi=>(h1 i hi).1)) g2 (ih g3 (fun i hi=>⟨Or.inl hi,(h1 i (hr i hi).1).2⟩) (fun i hi=>Or.inr hi))
    (fun i hi=>⟨(h1 i (hq i hi).1).1,(hq i hi).2.1,fun e=>e.elim (hq i hi).2.2 (h1 i (hq i hi).1).2⟩)
    (fun i hi=>hi.elim (fun e=>⟨(h1 i (hr i e).1).1,(hr i e).2⟩) (fun e=>⟨hR i e,fun x=>(h1 i (g1.2 i x)).2 e⟩))
end
section
set_option maxRecDepth 100000
set_option maxHeartbeats 2000000
open Go.RowKit Go.Maps
structure BN(w wr:World)(E:Ev)(bf bl:Nat)(P:Nat→Prop)(done:List Nat)(R:Except (Nat×Nat) (St×List dx))(bb bb1 bb2:List Nat)(st:St)(lv:Value)(L:List Nat)(l1 l2:List dx)(P1 P2:Nat→Prop):Prop where
 eb:bb=bb1++bb2
 nw:NW wr E st lv (done++L)
 fw:FW wr bf bl st.lc
 r1:bB wr P1 bb1 l1
 r2:bB wr P2 bb2 l2
 p1:∀i,P1 i→P i∧¬P2 i
 p2:∀i,P2 i→P i
 kp:ae (iD E bl P) w wr
 hd:fC wr P1 L (eA l1)
 ok:fJ l2
 eq:R=match iQ E.f E.np st l2 with|.error e=>.error e|.ok (st',l')=>.ok (st',l1++l')
theorem sf(l m:List dx):eA (l++m)=eA l++eA m:=by
 induction l with
 |nil=>simp[eA]
 |cons a l ih=>simp[eA,ih]
theorem vT{l:List dx}(hS:∀s,s∈l→gH s):jb l:=by
 intro w E bf bl P P' bb v st lv done hn hf hs hp hp' hpp hrow hrep hok hlen
 obtain⟨pv,cv,rfl⟩:=ai hrow.1
 have hbl:bb.length≤1000000:=by rw[hrep.len];exact hlen
 clear hlen
 have HSY:=aa hs
 have HP:=aa hp
 have HP':=aa hp'
 have HPP:=aa hpp
 have HROW:=aa hrow
 have HST:=aa hS
 have HI:Hid (BN w w E bf bl P done (iQ E.f E.np st l) bb [] bb st lv [] [] l (fun _=>False) P):=
  ⟨rfl,by simpa using hn,hf,bB.nil,hrep,fun _ e=>e.elim,fun _ e=>e,ae.refl _ _,fC.nil,hok,by cases iQ E.f E.np st l with|error e=>rfl|ok x=>rfl⟩
 clear hn hf hs hp hp' hpp hrow hrep hok hS
 go_enter Tryz.func30,Tryz.ntmps30
 go_wp2_with fail
 go_loopw [10] (fun i wr=>∃(bb1 bb2:List Nat) (st1:St) (lv1:Value) (L:List Nat) (l1 l2:List dx) (P1 P2:Nat→Prop),i=.int .i64 bb1.length∧Hid (BN w wr E bf bl P done (iQ E.f E.np st l) bb bb1 bb2 st1 lv1 L l1 l2 P1 P2)∧Hid (∀s,s∈l2→gH s)) (fun i _=>bb.length-(intOf i).toNat)
 case atStart=>exact⟨[],bb,st,lv,[],[],l,_,_,rfl,HI,HST⟩
 case round=>
  obtain⟨bb1,bb2,st1,lv1,L,l1,l2,P1,P2,rfl,HB,HS2⟩:=hrel
  have hbb:=HB.out.eb
  rcases bb2 with _|⟨b,bb2⟩
  ·have hl2:l2=[]:=by have:=HB.out.r2;cases this;rfl
   have hkl:¬((bb1.length:Int)< (bb.length:Int)):=by rw[hbb];simp
   clear hbb
   go_wp2_with fail
   first|go_end0|refine bodyPost_ret (results_none rfl _ _ _) rfl ?_
   subst hl2
   have e:=HB.out.eq
   rw[iQ]at e
   simp only[List.append_nil]at e
   have hbb:=HB.out.eb
   simp only[List.append_nil]at hbb
   subst hbb
   refine⟨HB.out.kp,Or.inl ⟨st1,l1,lv1,L,e,rfl,HB.out.nw,HB.out.fw,HB.out.r1.keep (ae.refl (fun _=>False) wr) (fun i hi=>⟨?_,fun e=>e,(HB.out.p1 i hi).1⟩),HB.out.hd.keep (ae.refl (fun _=>False) wr) (fun i hi=>⟨fun e=>e,(HB.out.p1 i hi).1⟩)⟩⟩
   have:=(HP.out i (HB.out.p1 i hi).1).1
   have:=HB.out.nw.le
   omega
  ·rcases l2 with _|⟨s,l2⟩
   ·have:=HB.out.r2;cases this
   have hkl:(bb1.length:Int)< (bb.length:Int):=by rw[hbb];simp;omega
   have hkn:bb1.length< bb.length:=by omega
   have hvb:∃gv,pv=some ⟨gv,0,none⟩:=by
    obtain⟨g,c,e⟩:=aG HROW.out.1 (by omega)
    cases e;exact⟨g,rfl⟩
   obtain⟨gv,rfl⟩:=hvb
   have hgv:=HP'.out gv (HROW.out.2 gv rfl)
   have hcell:wr.cell? ⟨gv,bb1.length,none⟩=some (ak b):=by
    rw[HB.out.kp.cell (p:=⟨gv,bb1.length,none⟩) (HROW.out.1.lt gv rfl).2 (iD.not HSY.out hgv (HPP.out gv (HROW.out.2 gv rfl)))]
    rw[HROW.out.1.cellAt _ (by omega),hbb]
    simp[dW]
   have hcell':wr.cell? ⟨gv,bb1.length*1,none⟩=some (ak b):=by rw[Nat.mul_one];exact hcell
   clear hgv hbb
   obtain⟨Q1,R1,g1,g2,gq,gr⟩:∃Q1 R1,fI wr Q1 b s∧bB wr R1 bb2 l2∧(∀i,Q1 i→P2 i∧¬R1 i)∧(∀i,R1 i→P2 i):=by
    have:=HB.out.r2
    cases this with
    |cons h1 h2 hq hr=>exact⟨_,_,h1,h2,hq,hr⟩
   have HFQ:Hid (Fp E bf bl Q1):=fun i hi=>HP.out i (HB.out.p2 i (gq i hi).1)
   have hpok:=HB.out.ok
   rw[fJ]at hpok
   have HC:=aa (HS2.out s (by simp) wr E bf bl b Q1 st1 lv1 (done++L) HB.out.nw HB.out.fw HSY.out HFQ.out g1 hpok.1)
   have HG:=aa (And.intro g2 (And.intro gq (And.intro gr hpok.2)))
   clear g1 g2 gq gr hpok
   go_wp2_with fail
   refine HC.out.mono ?_
   rintro r w2 ⟨hk2,hx⟩
   have hkw:ae (iD E bl P) w w2:=HB.out.kp.trans (hk2.mono (iD.mono (fun i hi=>HB.out.p2 i (HG.out.2.1 i hi).1)))
   have HKW:=aa hkw
   rcases hx with⟨st2,s',lv2,L2,e2,rfl,n2,f2,t2,d2⟩|⟨e,a,e2,b2,rfl,h3⟩
   ·have hlt:∀i,P i→i< wr.heap.size:=fun i hi=>by have:=(HP.out i hi).1;have:=HB.out.nw.le;omega
    have hw1:∀i,P1 i→¬iD E bl Q1 i:=fun i hi=>iD.not HSY.out (HP.out i (HB.out.p1 i hi).1) (fun e=>(HB.out.p1 i hi).2 (HG.out.2.1 i e).1)
    have hw2:∀i,R1 i→¬iD E bl Q1 i:=fun i hi=>iD.not HSY.out (HP.out i (HB.out.p2 i (HG.out.2.2.1 i hi))) (fun e=>(HG.out.2.1 i e).2 hi)
    have HN:Hid (BN w w2 E bf bl P done (iQ E.f E.np st l) bb (bb1++[b]) bb2 st2 lv2 (L++L2) (l1++[s']) l2 (fun i=>P1 i∨Q1 i) R1):=by
     refine⟨by rw[HB.out.eb];simp,by rw[←List.append_assoc];exact n2,f2,?_,?_,?_,fun i hi=>HB.out.p2 i (HG.out.2.2.1 i hi),hkw,?_,HG.out.2.2.2,?_⟩
     ·exact(HB.out.r1.keep (P':=P1) hk2 (fun i hi=>⟨hlt i (HB.out.p1 i hi).1,hw1 i hi,hi⟩)).snoc t2 (fun i hi=>⟨Or.inl hi,fun e=>(HB.out.p1 i hi).2 (HG.out.2.1 i e).1⟩) (fun i hi=>Or.inr hi)
     ·exact HG.out.1.keep hk2 (fun i hi=>⟨hlt i (HB.out.p2 i (HG.out.2.2.1 i hi)),hw2 i hi,hi⟩)
     ·intro i hi
      rcases hi with hi|hi
      ·exact⟨(HB.out.p1 i hi).1,fun e=>(HB.out.p1 i hi).2 (HG.out.2.2.1 i e)⟩
      ·exact⟨HB.out.p2 i (HG.out.2.1 i hi).1,(HG.out.2.1 i hi).2⟩
     ·rw[sf]
      have:eA [s']=qF s':=by simp[eA]
      rw[this]
      exact(HB.out.hd.keep hk2 (fun i hi=>⟨hw1 i hi,Or.inl hi⟩)).app (d2.keep (ae.refl (fun _=>False) w2) (fun i hi=>⟨fun e=>e,Or.inr hi⟩))
     ·rw[HB.out.eq,iQ,e2]
      simp only
      cases iQ E.f E.np st2 l2 with
      |error e=>rfl
      |ok x=>simp
    have HS3:Hid (∀x,x∈l2→gH x):=fun x hx=>HS2.out x (by simp[hx])
    clear hk2 e2 n2 f2 t2 d2 hlt hw1 hw2 hkw
    go_wp2_with fail
    go_roundw
    case rel=>exact⟨bb1++[b],bb2,st2,lv2,L++L2,l1++[s'],l2,_,_,by simp,HN,HS3⟩
    case measure=>simp[intOf];omega
   ·have HE:Hid (iQ E.f E.np st l=.error (e,a)):=by show _=_;rw[HB.out.eq,iQ,e2]
    replace h3:=aa h3
    clear hk2 e2 hkw
    go_wp2_with fail
    exact⟨rfl,HKW.out,Or.inr ⟨e,a,HE.out,b2,rfl,h3.out⟩⟩
end
section
open Go.RowKit Go.Maps
structure SU(w wr:World)(E:Ev)(bf bl b:Nat)(P Q:Nat→Prop)(p:Ph)(sr sb:Value)(r:List Pa)(vs:List Value)(bls:List (List dx))(st:St)(lv:Value)(done:List Nat):Prop where
 nw:NW wr E st lv done
 fw:FW wr bf bl st.lc
 bk:an wr b (aK p sr sb)
 row:wr.ownsRow 0 193 4 sr r.length (et r)
 brow:cA wr P 81 1 sb bls.length vs
 tb:cD wr Q vs bls
 kp:ae (iD E bl P) w wr
structure SF(E:Ev)(bf bl b:Nat)(P Q:Nat→Prop)(sr sb:Value):Prop where
 sy:Bv E bf bl
 fp:Fp E bf bl P
 pb:P b
 pr:∀i,sr.ownBlock=some i→P i
 sep:zb P Q b sr sb
section
variable {w wr w':World} {E:Ev} {bf bl b:Nat} {P Q:Nat→Prop} {p p':Ph} {sr sb:Value} {r r':List Pa} {vs:List Value} {bls:List (List dx)} {st:St} {lv:Value} {done:List Nat}
theorem SF.apart(h:SF E bf bl b P Q sr sb)(g:Nat)(hg:sr.ownBlock=some g):oB E.bn E.bm bf bl b g:=by
 have hb:=h.fp b h.pb
 have hr:=h.fp g (h.pr g hg)
 have hs:=h.sy
 exact⟨hr.2.2.2.2.2.1,fun e=>h.sep.rb (by rw[hg,e]),hb.2.2.2.2.2.1,fun e=>hr.2.1 e.symm,hs.nl,fun e=>hr.2.2.1 e.symm,hs.ml,fun e=>hr.2.2.2.2.1 e.symm,hs.fl⟩
theorem SU.move(h:SU w wr E bf bl b P Q p sr sb r vs bls st lv done)(f:SF E bf bl b P Q sr sb){S:Nat→Prop}(k:ae S wr w')(hS:∀i,S i→i=bl∨i=b∨sr.ownBlock=some i):
  NW w' E st lv done∧cA w' P 81 1 sb bls.length vs∧cD w' Q vs bls∧ae (iD E bl P) w w'∧w'.cell? ⟨bf,1,none⟩=some (.map (some bl)):=by
 have hb:=f.fp b f.pb
 have hlb:=f.sy.lt.2.2.2.2
 have hS':∀i,S i→i< E.B∧i≠E.bn∧i≠E.bm∧i≠E.bp∧i≠bf∧¬E.Q i:=fun i hi=>by
  rcases hS i hi with e|e|e
  ·subst e;exact⟨hlb,fun e=>f.sy.nl e.symm,fun e=>f.sy.ml e.symm,fun e=>f.sy.pl e.symm,fun e=>f.sy.fl e.symm,fun e=>(f.sy.q _ e).2.2.2 rfl⟩
  ·subst e;exact⟨hb.1,hb.2.1,hb.2.2.1,hb.2.2.2.1,hb.2.2.2.2.1,hb.2.2.2.2.2.2⟩
  ·have hr:=f.fp i (f.pr i e);exact⟨hr.1,hr.2.1,hr.2.2.1,hr.2.2.2.1,hr.2.2.2.2.1,hr.2.2.2.2.2.2⟩
 have hle:=h.nw.le
 refine⟨h.nw.kept k (fun i hi=>⟨(hS' i hi).1,(hS' i hi).2.1,(hS' i hi).2.2.1,(hS' i hi).2.2.2.1,(hS' i hi).2.2.2.2.2⟩),⟨aL h.brow.1 k (fun i e x=>?_),h.brow.2⟩,h.tb.keep k (fun i hi=>⟨?_,fun x=>?_,hi⟩),h.kp.trans (k.mono (fun i hi=>?_)),?_⟩
 ·rcases hS i x with y|y|y
  ·exact(f.fp i (h.brow.2 i e)).2.2.2.2.2.1 y
  ·exact f.sep.bb (by rw[e,y])
  ·exact f.sep.rs i y e
 ·have:=(f.fp i (f.sep.q i hi).1).1;omega
 ·have hq:=f.sep.q i hi
  rcases hS i x with y|y|y
  ·exact(f.fp i hq.1).2.2.2.2.2.1 y
  ·exact hq.2.1 y
  ·exact hq.2.2.1 y
 ·rcases hS i hi with y|y|y
  ·exact Or.inr (Or.inr (Or.inr (Or.inl y)))
  ·exact Or.inl (y▸f.pb)
  ·exact Or.inl (f.pr i y)
 ·rw[k.cell (p:=⟨bf,1,none⟩) (ah (a:=⟨bf,1,none⟩) h.fw.hc) (fun x=>(hS' bf x).2.2.2.2.1 rfl)];exact h.fw.hc
theorem SU.left(h:SU w wr E bf bl b P Q p sr sb r vs bls st lv done)(f:SF E bf bl b P Q sr sb){l':Lc}(g:Ce bl wr w' b p' sr sb l'):SU w w' E bf bl b P Q p' sr sb r vs bls {st with lc:=l'} lv done:=by
 obtain⟨m1,m2,m3,m4,m5⟩:=h.move f g.kp (fun i hi=>hi.elim Or.inl (fun e=>Or.inr (Or.inl e)))
 exact⟨⟨m1.nb,m1.pb,m1.own,m1.pl,m1.p48,m1.le⟩,⟨m5,g.lc,g.le⟩,g.st,aL h.row g.kp (fun i e x=>by
  rcases x with x|x
  ·exact(f.fp i (f.pr i e)).2.2.2.2.2.1 x
  ·exact f.sep.rb (by rw[e,x])),m2,m3,m4⟩
theorem SU.named(h:SU w wr E bf bl b P Q p sr sb r vs bls st lv done)(f:SF E bf bl b P Q sr sb)(k:ae (ao b) wr w')(hb:an w' b (aK p' sr sb)):SU w w' E bf bl b P Q p' sr sb r vs bls st lv done:=by
 obtain⟨m1,m2,m3,m4,m5⟩:=h.move f k (fun i hi=>Or.inr (Or.inl hi))
 exact⟨m1,⟨m5,h.fw.lc.kept k (fun e=>(f.fp b f.pb).2.2.2.2.2.1 (e:bl=b).symm),h.fw.le⟩,hb,aL h.row k (fun i e x=>f.sep.rb (by rw[e,(x:i=b)])),m2,m3,m4⟩
theorem SU.right(h:SU w wr E bf bl b P Q p sr sb r vs bls st lv done)(f:SF E bf bl b P Q sr sb){l':Lc}(k:ae (BD bl b sr) wr w')(g:RW w' bl b p' sr sb r' l'):SU w w' E bf bl b P Q p' sr sb r' vs bls {st with lc:=l'} lv done:=by
 obtain⟨m1,m2,m3,m4,m5⟩:=h.move f k (fun i hi=>hi)
 exact⟨⟨m1.nb,m1.pb,m1.own,m1.pl,m1.p48,m1.le⟩,⟨m5,g.lc,g.le⟩,g.st,g.row,m2,m3,m4⟩
theorem SU.limits(h:SU w wr E bf bl b P Q p sr sb r vs bls st lv done)(f:SF E bf bl b P Q sr sb){nw gs:Nat}(k:ae (ao E.bn) wr w')(g:NB w' E.bn E.bm E.bp E.n E.f E.Q E.np E.fv nw gs):SU w w' E bf bl b P Q p sr sb r vs bls {st with news:=nw,gos:=gs} lv done:=by
 have hle:=h.nw.le
 have hno:∀i,P i→¬ao E.bn i:=fun i hi e=>(f.fp i hi).2.1 e
 refine⟨⟨g,h.nw.pb.kept k (fun e=>f.sy.np (e:E.bp=E.bn).symm),aU h.nw.own k (fun i e=>by have:=f.sy.lt.1;have:i=E.bn:=e;omega),h.nw.pl,h.nw.p48,Nat.le_trans hle k.size⟩,h.fw.kept k (fun e=>f.sy.fn e) (fun e=>f.sy.nl (e:bl=E.bn).symm),h.bk.kept k (hno b f.pb),aL h.row k (fun i e=>hno i (f.pr i e)),⟨aL h.brow.1 k (fun i e=>hno i (h.brow.2 i e)),h.brow.2⟩,h.tb.keep k (fun i hi=>⟨?_,hno i (f.sep.q i hi).1,hi⟩),h.kp.trans (k.mono (fun i hi=>Or.inr (Or.inl hi)))⟩
 have:=(f.fp i (f.sep.q i hi).1).1;omega
end
structure SB(w wr:World)(E:Ev)(bf bl b:Nat)(P Q:Nat→Prop)(p:Ph)(sr sb:Value)(r:List Pa)(vs vs1 vs2:List Value)(done:List Nat)(R:Except (Nat×Nat) (St×List (List dx)))(st:St)(lv:Value)(L:List Nat)(l1 l2:List (List dx))(Q1 Q2:Nat→Prop):Prop where
 ev:vs=vs1++vs2
 nw:NW wr E st lv (done++L)
 fw:FW wr bf bl st.lc
 bk:an wr b (aK p sr sb)
 row:cA wr P 193 4 sr r.length (et r)
 brow:cA wr P 81 1 sb vs.length vs
 t1:cD wr Q1 vs1 l1
 t2:cD wr Q2 vs2 l2
 q1:∀i,Q1 i→Q i∧¬Q2 i
 q2:∀i,Q2 i→Q i
 kp:ae (iD E bl P) w wr
 hd:fC wr Q1 L (gK l1)
 ok:km l2
 eq:R=match kC E.f E.np st l2 with|.error e=>.error e|.ok (st',l')=>.ok (st',l1++l')
theorem sg(l m:List (List dx)):gK (l++m)=gK l++gK m:=by
 induction l with
 |nil=>simp[gK]
 |cons a l ih=>simp[gK,ih]
theorem SB.next{w wr w2:World}{E:Ev}{bf bl b:Nat}{P Q:Nat→Prop}{p:Ph}{sr sb:Value}{r:List Pa}{vs vs1 vs2:List Value}{v:Value}{done:List Nat}{R:Except (Nat×Nat) (St×List (List dx))}{st st2:St}{lv lv2:Value}{L L2:List Nat}{l1 l2:List (List dx)}{l l':List dx}{Q1 Q2 Qx Rx:Nat→Prop}{bb:List Nat}(h:SB w wr E bf bl b P Q p sr sb r vs vs1 (v::vs2) done R st lv L l1 (l::l2) Q1 Q2)(f:SF E bf bl b P Q sr sb)
  (g1:cA wr Q2 133 1 v bb.length (dW bb)) (g3:cD wr Rx vs2 l2) (hq:∀i,Qx i→Q2 i∧v.ownBlock≠some i∧¬Rx i) (hr:∀i,Rx i→Q2 i∧v.ownBlock≠some i) (k:ae (iD E bl Qx) wr w2) (e2:iQ E.f E.np st l=.ok (st2,l')) (n2:NW w2 E st2 lv2 (done++L++L2)) (f2:FW w2 bf bl st2.lc) (t2:bB w2 Qx bb l') (d2:fC w2 Qx L2 (eA l')):
  SB w w2 E bf bl b P Q p sr sb r vs (vs1++[v]) vs2 done R st2 lv2 (L++L2) (l1++[l']) l2 (fun i=>Q1 i∨(Q2 i∧¬Rx i)) Rx:=by
 have hle:=h.nw.le
 have hQP:∀i,Q i→P i:=fun i hi=>(f.sep.q i hi).1
 have hlt:∀i,P i→i< wr.heap.size:=fun i hi=>by have:=(f.fp i hi).1;omega
 have hno:∀i,P i→¬Qx i→¬iD E bl Qx i:=fun i hi hx=>iD.not f.sy (f.fp i hi) hx
 have hxQ:∀i,Qx i→Q i:=fun i hi=>h.q2 i (hq i hi).1
 have hok:=h.ok
 rw[km]at hok
 have hw1:∀i,Q1 i→¬iD E bl Qx i:=fun i hi=>hno i (hQP i (h.q1 i hi).1) (fun e=>(h.q1 i hi).2 (hq i e).1)
 have hwr:∀i,Rx i→¬iD E bl Qx i:=fun i hi=>hno i (hQP i (h.q2 i (hr i hi).1)) (fun e=>(hq i e).2.2 hi)
 have hwv:∀i,v.ownBlock=some i→¬iD E bl Qx i:=fun i e=>hno i (hQP i (h.q2 i (g1.2 i e))) (fun x=>(hq i x).2.1 e)
 have hwb:∀i,P i→¬Q i→¬iD E bl Qx i:=fun i hi hn=>hno i hi (fun e=>hn (hxQ i e))
 refine⟨by rw[h.ev];simp,by rw[←List.append_assoc];exact n2,f2,h.bk.kept k (hwb b f.pb (fun e=>(f.sep.q b e).2.1 rfl)),⟨aL h.row.1 k (fun i e=>hwb i (f.pr i e) (fun x=>(f.sep.q i x).2.2.1 e)),h.row.2⟩,⟨aL h.brow.1 k (fun i e=>hwb i (h.brow.2 i e) (fun x=>(f.sep.q i x).2.2.2 e)),h.brow.2⟩,?_,g3.keep k (fun i hi=>⟨hlt i (hQP i (h.q2 i (hr i hi).1)),hwr i hi,hi⟩),?_,fun i hi=>h.q2 i (hr i hi).1,h.kp.trans (k.mono (iD.mono (fun i hi=>hQP i (hxQ i hi)))),?_,hok.2,?_⟩
 ·refine(h.t1.keep (P':=Q1) k (fun i hi=>⟨hlt i (hQP i (h.q1 i hi).1),hw1 i hi,hi⟩)).snoc (R:=fun i=>Q2 i∧¬Rx i) ⟨aL g1.1 k hwv,fun i e=>⟨g1.2 i e,fun x=>(hr i x).2 e⟩⟩ t2 (fun i hi=>⟨Or.inl hi,fun e=>(h.q1 i hi).2 e.1⟩) (fun i hi=>Or.inr hi) (fun i hi=>⟨⟨(hq i hi).1,(hq i hi).2.2⟩,(hq i hi).2.1⟩)
 ·intro i hi
  rcases hi with hi|hi
  ·exact⟨(h.q1 i hi).1,fun e=>(h.q1 i hi).2 (hr i e).1⟩
  ·exact⟨h.q2 i hi.1,hi.2⟩
 ·rw[sg]
  have:gK [l']=eA l':=by simp[gK]
  rw[this]
  exact(h.hd.keep k (fun i hi=>⟨hw1 i hi,Or.inl hi⟩)).app (d2.keep (ae.refl (fun _=>False) w2) (fun i hi=>⟨fun e=>e,Or.inr ⟨(hq i hi).1,(hq i hi).2.2⟩⟩))
 ·rw[h.eq,kC,e2]
  simp only
  cases kC E.f E.np st2 l2 with
  |error e=>rfl
  |ok x=>simp
end
section
set_option maxRecDepth 100000
set_option maxHeartbeats 4000000
open Go.RowKit Go.Maps
theorem SU.blocks{w wr:World}{E:Ev}{bf bl b:Nat}{P Q:Nat→Prop}{p:Ph}{sr sb:Value}{r:List Pa}{vs:List Value}{bls:List (List dx)}{st:St}{lv:Value}{done:List Nat}(h:SU w wr E bf bl b P Q p sr sb r vs bls st lv done)(f:SF E bf bl b P Q sr sb)(hok:km bls):
  SB w wr E bf bl b P Q p sr sb r vs [] vs done (kC E.f E.np st bls) st lv [] [] bls (fun _=>False) Q:=
 ⟨rfl,by simpa using h.nw,h.fw,h.bk,⟨h.row,f.pr⟩,by have:=h.tb.len;rw[this];exact h.brow,cD.nil,h.tb,fun _ e=>e.elim,fun _ e=>e,h.kp,fC.nil,hok,by cases kC E.f E.np st bls with|error e=>rfl|ok x=>rfl⟩
theorem SB.done{w wr:World}{E:Ev}{bf bl b:Nat}{P Q:Nat→Prop}{p:Ph}{sr sb:Value}{r:List Pa}{vs vs1:List Value}{done:List Nat}{R:Except (Nat×Nat) (St×List (List dx))}{st:St}{lv:Value}{L:List Nat}{l1:List (List dx)}{Q1 Q2:Nat→Prop}(h:SB w wr E bf bl b P Q p sr sb r vs vs1 [] (done++[b]) R st lv L l1 [] Q1 Q2)(f:SF E bf bl b P Q sr sb):
  R=.ok (st,l1)∧NW wr E st lv (done++(b::L))∧FW wr bf bl st.lc∧fI wr P b (.mk p r l1)∧fC wr P (b::L) (qF (.mk p r l1)):=by
 have hv:vs=vs1:=by have:=h.ev;simpa using this
 subst hv
 refine⟨by rw[h.eq,kC];simp,by have:=h.nw;simpa using this,h.fw,fI.mk (Q:=Q1) f.pb h.bk h.row (by have:=h.t1.len;rw[←this];exact h.brow) h.t1 ⟨fun i hi=>f.sep.q i (h.q1 i hi).1,f.sep.rb,f.sep.bb,f.sep.rs⟩,?_⟩
 rw[qF]
 exact fC.cons f.pb h.bk (h.hd.keep (ae.refl (fun _=>False) wr) (fun i hi=>⟨fun e=>e,(f.sep.q i (h.q1 i hi).1).1⟩))
theorem SU.app{w w1 w3:World}{E:Ev}{bf bl b:Nat}{P Q:Nat→Prop}{p:Ph}{sr sb:Value}{r:List Pa}{vs:List Value}{bls:List (List dx)}{st:St}{lv l3:Value}{done:List Nat}(h:SU w w1 E bf bl b P Q p sr sb r vs bls st lv done)(f:SF E bf bl b P Q sr sb)(k:ae (fun i=>lv.ownBlock=some i) w1 w3)(own:w3.ownsRow E.B 133 1 l3 (done.length+1) (dW done++[ak b]))(h48:done.length≠48):
  SU w (w3.setCell ⟨E.bp,1,none⟩ l3) E bf bl b P Q p sr sb r vs bls {st with pl:=st.pl+1} l3 (done++[b]):=by
 have hle:=h.nw.le
 have hlv:∀i,lv.ownBlock=some i→E.B≤i:=fun i e=>(h.nw.own.lt i e).1
 have hsy:=f.sy.lt
 have k2:ae (fun i=>i=E.bp∨lv.ownBlock=some i) w1 (w3.setCell ⟨E.bp,1,none⟩ l3):=(k.mono (T:=fun i=>i=E.bp∨lv.ownBlock=some i) (fun i e=>Or.inr e)).setCell (p:=⟨E.bp,1,none⟩) (Or.inl (Or.inl rfl)) _
 have hno:∀i,i< E.B→i≠E.bp→¬(i=E.bp∨lv.ownBlock=some i):=fun i hi hn e=>by
  rcases e with e|e
  ·exact hn e
  ·have:=hlv i e;omega
 have hnoP:∀i,P i→¬(i=E.bp∨lv.ownBlock=some i):=fun i hi=>hno i (f.fp i hi).1 (f.fp i hi).2.2.2.1
 have hlen:=h.nw.pl
 have h4:=h.nw.p48
 refine⟨⟨h.nw.nb.kept k2 (hno _ hsy.1 f.sy.np) (hno _ hsy.2.1 f.sy.mp) (fun i hi=>hno i (f.sy.q i hi).1 (f.sy.q i hi).2.2.1),?_,?_,by simp[hlen],by show st.pl+1≤48;omega,Nat.le_trans hle k2.size⟩,h.fw.kept k2 (hno _ hsy.2.2.2.1 f.sy.fp) (hno _ hsy.2.2.2.2 (fun e=>f.sy.pl e.symm)),h.bk.kept k2 (hnoP b f.pb),aL h.row k2 (fun i e=>hnoP i (f.pr i e)),⟨aL h.brow.1 k2 (fun i e=>hnoP i (h.brow.2 i e)),h.brow.2⟩,h.tb.keep k2 (fun i hi=>⟨?_,hnoP i (f.sep.q i hi).1,hi⟩),h.kp.trans (k2.mono (fun i hi=>?_))⟩
 ·have hb3:=h.nw.pb.kept k (fun e=>by have:=hlv _ e;omega)
  exact hb3.set 1 l3 (show 1< 2 by decide)
 ·have:=aJ (b:=E.bp) own 1 l3 hsy.2.2.1
  rw[ky]
  simpa using this
 ·have:=(f.fp i (f.sep.q i hi).1).1;omega
 ·rcases hi with e|e
  ·exact Or.inr (Or.inr (Or.inl e))
  ·exact Or.inr (Or.inr (Or.inr (Or.inr (hlv i e))))
section
variable {f:aj→Option (Nat×Nat)} {np:List Nat} {st:St} {p p2 p3:Ph} {r:List Pa} {l2:Lc} {nw gs:Nat}
theorem ym(h:st.pl≠48){e:Nat}(q1:eO f st.lc {p with place:=st.pl}=.error e):hH f np st p r=.error (e,p.la):=by unfold hH;rw[if_neg h,q1]
theorem yl(h:st.pl≠48)(q1:eO f st.lc {p with place:=st.pl}=.ok (p2,l2)){e:Nat}(q2:lu st.news st.gos p2=.error e):hH f np st p r=.error (e,p.wa):=by unfold hH;rw[if_neg h,q1];simp only;rw[q2]
theorem yk(h:st.pl≠48)(q1:eO f st.lc {p with place:=st.pl}=.ok (p2,l2))(q2:lu st.news st.gos p2=.ok (nw,gs)){e:Nat}(q3:eL f np r.length p2=.error e):hH f np st p r=.error (e,p.na):=by unfold hH;rw[if_neg h,q1];simp only;rw[q2];simp only;rw[q3]
theorem yj(h:st.pl≠48)(q1:eO f st.lc {p with place:=st.pl}=.ok (p2,l2))(q2:lu st.news st.gos p2=.ok (nw,gs))(q3:eL f np r.length p2=.ok p3){e:Nat×Nat}(q4:iL f l2 p3 r=.error e):hH f np st p r=.error e:=by unfold hH;rw[if_neg h,q1];simp only;rw[q2];simp only;rw[q3];simp only;rw[q4]
theorem yi(h:st.pl≠48)(q1:eO f st.lc {p with place:=st.pl}=.ok (p2,l2))(q2:lu st.news st.gos p2=.ok (nw,gs))(q3:eL f np r.length p2=.ok p3){p4:Ph}{r':List Pa}{l':Lc}(q4:iL f l2 p3 r=.ok (p4,r',l')):hH f np st p r=.ok (⟨l',st.pl+1,nw,gs⟩,p4,r'):=by unfold hH;rw[if_neg h,q1];simp only;rw[q2];simp only;rw[q3];simp only;rw[q4]
end
theorem Bc{p:Ph}{r:List Pa}{bls:List (List dx)}(hB:∀l,l∈bls→jb l):gH (.mk p r bls):=by
 intro w E bf bl b P st lv done hn hf hs hp hrep hok
 obtain⟨i0,hi,hz0,hz1,hz2⟩:=info_parts kj
 obtain⟨Q,sr,sb,vs,hPb,hS,hrow,hbrow,hTB,hsep⟩:∃Q sr sb vs,P b∧an w b (aK p sr sb)∧cA w P 193 4 sr r.length (et r)∧cA w P 81 1 sb bls.length vs∧cD w Q vs bls∧zb P Q b sr sb:=by
  cases hrep with
  |mk a1 a2 a3 a4 a5 a6=>exact⟨_,_,_,_,a1,a2,a3,a4,a5,a6⟩
 rw[rq]at hok
 obtain⟨hph,hbok,hbl6⟩:=hok
 obtain⟨pr,cr,rfl⟩:=ai hrow.1
 obtain⟨pb,cb,rfl⟩:=ai hbrow.1
 obtain⟨pl,cl,rfl⟩:=ai hn.own
 have HF:Hid (SF E bf bl b P Q (.slice pr r.length cr) (.slice pb bls.length cb)):=⟨hs,hp,hPb,hrow.2,hsep⟩
 have hb:=hp b hPb
 have HBB:=aa hB
 have HPH:=aa hph
 have HBO:=aa hbok
 have hpl:=hn.pl
 have h48:=hn.p48
 have hle:=hn.le
 have hnb0:w.cell? ⟨E.bn,0,none⟩=some (ak E.bp):=hn.nb.nb.cell 0
 have hpb1:w.cell? ⟨E.bp,1,none⟩=some (.slice pl done.length cl):=hn.pb.cell 1
 have hb1:w.cell? ⟨b,1,none⟩=some (.int .i64 p.place):=hS.cell 1
 have hbf:=hS.fz
 have n1:b≠E.bn:=hb.2.1
 have n2:b≠E.bp:=hb.2.2.2.1
 have hdl:done.length≤48:=by omega
 have HEQ:Hid (uc E.f E.np st (.mk p r bls)=match hH E.f E.np st p r with|.error e=>.error e|.ok (st1,p',r')=>match kC E.f E.np st1 bls with|.error e=>.error e|.ok (st2,bls')=>.ok (st2,.mk p' r' bls')):=by show _=_;rw[uc];rfl
 have hk1:ae (ao b) w (w.setCell ⟨b,1,none⟩ (.int .i64 done.length)):=(ae.refl (ao b) w).set1 1 _
 have HU1:Hid (SU w (w.setCell ⟨b,1,none⟩ (.int .i64 done.length)) E bf bl b P Q {p with place:=st.pl} (.slice pr r.length cr) (.slice pb bls.length cb) r vs bls st (.slice pl done.length cl) done):=by
  have h0:SU w w E bf bl b P Q p (.slice pr r.length cr) (.slice pb bls.length cb) r vs bls st (.slice pl done.length cl) done:=⟨hn,hf,hS,hrow.1,hbrow,hTB,ae.refl _ _⟩
  refine h0.named HF.out hk1 ?_
  rw[hpl]
  exact hS.set 1 _ (show 1< 14 by decide)
 have HPL:=aa hpl
 clear hpl h48
 clear hn hf hs hp hrep hS hrow hbrow hTB hsep hph hbok hB hk1 hb hPb
 by_cases e48:done.length=48
 ·have hb48:((done.length:Int)==48)=true:=by rw[beq_iff_eq];omega
  have HE:Hid (uc E.f E.np st (.mk p r bls)=.error (8,p.at_)):=by show _=_;rw[HEQ.out];unfold hH;rw[if_pos (by have:=HPL.out;omega)]
  have ha0:(w.setCell ⟨b,1,none⟩ (.int .i64 done.length)).cell? ⟨b,0,none⟩=some (.int .i64 p.at_):=HU1.out.bk.cell 0
  clear e48
  go_enter Tryz.func44,Tryz.ntmps44
  go_wp2_with fail
  refine(bo 8 p.at_ _).mono ?_
  rintro e w2 ⟨⟨b2,rfl,h3⟩,h4⟩
  replace h3:=aa h3
  replace h4:=aa h4
  go_wp2_with fail
  exact⟨rfl,HU1.out.kp.below (by simpa[World.setCell]using h4.out),Or.inr ⟨8,p.at_,HE.out,b2,rfl,h3.out⟩⟩
 have hb48:((done.length:Int)==48)=false:=by rw[beq_eq_false_iff_ne];omega
 have HN48:=aa e48
 clear e48
 go_enter Tryz.func44,Tryz.ntmps44
 go_upto_region 3 with fail
 have hsz:(w.setCell ⟨b,1,none⟩ (.int .i64 done.length)).heap.size=w.heap.size:=by simp[World.setCell]
 have q0:(w.setCell ⟨b,1,none⟩ (.int .i64 done.length)).cell? ⟨E.bn,0,none⟩=some (ak E.bp):=HU1.out.nw.nb.nb.cell 0
 have q1:(w.setCell ⟨b,1,none⟩ (.int .i64 done.length)).cell? ⟨E.bp,1,none⟩=some (.slice pl done.length cl):=HU1.out.nw.pb.cell 1
 have qf:=HU1.out.nw.pb.fz
 have hlt1:=HU1.out.nw.pb.lt
 have hlt2:=HU1.out.nw.nb.nb.lt
 have hown1:=HU1.out.nw.own
 have hle1:=HU1.out.nw.le
 generalize hw1:w.setCell ⟨b,1,none⟩ (.int .i64 done.length)=w1 at *
 replace hw1:=aa hw1
 clear hnb0 hpb1 hb1 hbf hsz
 have HQ:Hid (∀w3,ae (fun k=>Value.ownBlock (.slice pl done.length cl)=some k) w1 w3→w3.cell? ⟨E.bn,0,none⟩=some (ak E.bp)∧w3.cell? ⟨E.bp,1,none⟩=some (.slice pl done.length cl)∧∀j,w3.frozen? ⟨E.bp,j,none⟩=false):=fun w3 hk3=>by
  have hsy:=HF.out.sy.lt
  have hnB:∀k,Value.ownBlock (.slice pl done.length cl)=some k→E.B≤k:=fun k hk=>(hown1.lt k hk).1
  have m1:¬Value.ownBlock (.slice pl done.length cl)=some E.bn:=fun e=>by have:=hnB E.bn e;omega
  have m2:¬Value.ownBlock (.slice pl done.length cl)=some E.bp:=fun e=>by have:=hnB E.bp e;omega
  exact⟨by rw[hk3.cell (p:=⟨E.bn,0,none⟩) hlt2 m1];exact q0,by rw[hk3.cell (p:=⟨E.bp,1,none⟩) hlt1 m2];exact q1,fun j=>by rw[hk3.frozen (p:=⟨E.bp,j,none⟩) hlt1 m2];exact qf j⟩
 go_cut []from 8 (fun wx=>∃p3 c3,Hid (SU w wx E bf bl b P Q {p with place:=st.pl} (.slice pr r.length cr) (.slice pb bls.length cb) r vs bls {st with pl:=st.pl+1} (.slice p3 (done.length+1) c3) (done++[b])))
 case first=>
  go_wp2_with fail
  go_region_law (refine aA rfl (.tmp 39) (.tmp 41) 81 rfl E.B 133 i0 (.pointer none) 1 8 Tryz.underlying81 hi hz0 hz1 hz2 rfl (by decide) _ _ _ (by simp[Act.eval,Act.put]) ((dR hown1).alloc _) ⟨w1.heap.size,0,none⟩ 1 1 [ak b] (by simp[Act.eval,Act.put]) rfl (aF _ _ _ _ (by simp)) (by intro u hu;simp at hu;subst hu;rfl) (by decide) (by unfold maxLen;omega) (by omega) (by simp;omega) ?_;intro l3 w3 hown3 hgrow3 hwh3;obtain⟨p3,c3,rfl⟩:=ai hown3;have hk3:=ae.grown (((ae.refl (fun k=>Value.ownBlock (.slice pl done.length cl)=some k) w1).drew).alloc (.cells #[ak b] 133)) hgrow3 (fun k hk=>Or.inl hk);obtain⟨q0c,q1c,qfc⟩:=HQ.out w3 hk3;replace hk3:=aa hk3;replace hown3:=aa hown3;clear hgrow3 hwh3)
  all_goals
  have HX:=aa (HU1.out.app HF.out hk3.out (by simpa using hown3.out) HN48.out)
  go_wp2_with fail
  go_meet
  exact⟨p3,c3,HX.out⟩
 case rest=>
 obtain⟨p3,c3,HU⟩:=hcut
 have hne:b≠bl:=(HF.out.fp b HF.out.pb).2.2.2.2.2.1
 have HSP:Hid (st.pl≠48):=fun e=>HN48.out (HPL.out.trans e)
 clear q0 q1 qf hlt1 hlt2 hown1 hle1 hb48 hw1 HQ HU1
 go_wp2_with fail
 refine(we HU.out.nw.nb.nm HU.out.bk HPH.out.lt HU.out.fw.hc HU.out.fw.lc HU.out.fw.le hne).mono ?_
 rintro e w5 (⟨p2,l2,q1,rfl,g⟩|⟨er,q1,⟨b2,rfl,h3⟩,h4⟩)
 case inr=>
  have HX:=aa (And.intro (HU.out.kp.below h4) (And.intro (ym (np:=E.np) (r:=r) HSP.out q1) h3))
  clear q1 h3 h4
  go_wp2_with fail
  refine⟨rfl,HX.out.1,Or.inr ⟨er,p.la,?_,b2,rfl,HX.out.2.2⟩⟩
  rw[HEQ.out,HX.out.2.1]
 case inl=>
 have HU2:=aa (HU.out.left HF.out g)
 have Q1:=aa q1
 clear q1 g
 go_wp2_with fail
 obtain⟨m2,k2,hp2,hk2⟩:=rY Q1.out
 have HP2:Hid (p2.wa=p.wa∧p2.na=p.na∧p2.nt=p.nt∧p2.op=p.op∧(p2.kind=p.kind∨p2.kind=3)):=by rw[hp2];exact⟨rfl,rfl,rfl,rfl,hk2⟩
 clear hp2 hk2
 have hq3:∀i,E.Q i→i≠E.bn:=fun i hi=>(HF.out.sy.q i hi).2.1
 have HQ3:=aa hq3
 clear hq3
 refine(rX HU2.out.nw.nb HU2.out.bk n1 (Ne.symm HF.out.sy.nm) HQ3.out).mono ?_
 rintro e w6 ⟨hk6,⟨nw,gs,q2,rfl,g⟩|⟨er,q2,b2,rfl,h3⟩⟩
 case inr=>
  have HX:=aa (And.intro (HU2.out.kp.trans (hk6.mono (fun i e=>Or.inr (Or.inl e)))) (And.intro (yl (np:=E.np) (r:=r) HSP.out Q1.out q2) h3))
  clear q2 h3 hk6
  go_wp2_with fail
  refine⟨rfl,HX.out.1,Or.inr ⟨er,p.wa,?_,b2,?_,?_⟩⟩
  ·rw[HEQ.out,HX.out.2.1]
  ·rfl
  ·have:=HX.out.2.2;rw[HP2.out.1]at this;exact this
 case inl=>
 have HU3:=aa (HU2.out.limits HF.out hk6 g)
 have Q2:=aa q2
 clear q2 g hk6
 go_wp2_with fail
 refine(qs HU3.out.nw.nb HU3.out.bk (by rw[HP2.out.2.2.1];exact HPH.out.nt) n1 ((HF.out.fp b HF.out.pb).2.2.2.2.2.2) HF.out.sy.fm HF.out.sy.few).mono ?_
 rintro e w7 ⟨hk7,⟨p5,q3,rfl,g⟩|⟨er,q3,b2,rfl,h3⟩⟩
 case inr=>
  have HX:=aa (And.intro (HU3.out.kp.trans (hk7.mono (fun i e=>Or.inl (by have e:i=b:=e;rw[e];exact HF.out.pb)))) (And.intro (yk HSP.out Q1.out Q2.out q3) h3))
  clear q3 h3 hk7
  go_wp2_with fail
  refine⟨rfl,HX.out.1,Or.inr ⟨er,p.na,?_,b2,?_,?_⟩⟩
  ·rw[HEQ.out,HX.out.2.1]
  ·rfl
  ·have:=HX.out.2.2;rw[HP2.out.2.1]at this;exact this
 case inl=>
 have HU4:=aa (HU3.out.named HF.out hk7 g)
 have Q3:=aa q3
 clear q3 g hk7
 obtain⟨m5,hp5⟩:=qv Q3.out
 have HP5:Hid (p5.kind=1∧p5.op=0→r≠[]):=fun e=>by
  rw[hp5]at e
  refine HPH.out.r0 ⟨?_,by rw[←HP2.out.2.2.2.1];exact e.2⟩
  rcases HP2.out.2.2.2.2 with x|x
  ·rw[←x];exact e.1
  ·have:=e.1;simp only at this;omega
 clear hp5
 go_wp2_with fail
 refine(qo HU4.out.nw.nb HU4.out.fw HU4.out.bk HU4.out.row HPH.out.rs HPH.out.rl HP5.out HF.out.apart hne).mono ?_
 rintro e w8 ⟨hk8,⟨p6,r6,l6,q4,rfl,hrl,g⟩|⟨er,a,q4,b2,rfl,h3⟩⟩
 case inr=>
  have HX:=aa (And.intro (HU4.out.kp.trans (hk8.mono (fun i e=>by rcases e with e|e|e;exact Or.inr (Or.inr (Or.inr (Or.inl e)));exact Or.inl (by rw[e];exact HF.out.pb);exact Or.inl (HF.out.pr i e)))) (And.intro (yj HSP.out Q1.out Q2.out Q3.out q4) h3))
  clear q4 h3 hk8
  go_wp2_with fail
  refine⟨rfl,HX.out.1,Or.inr ⟨er,a,?_,b2,rfl,HX.out.2.2⟩⟩
  rw[HEQ.out,HX.out.2.1]
 case inl=>
 have HU5:=aa (HU4.out.right HF.out hk8 g)
 have HHP:=aa (yi HSP.out Q1.out Q2.out Q3.out q4)
 have HB0:=aa (HU5.out.blocks HF.out HBO.out)
 have c13:w8.cell? ⟨b,13,none⟩=some (.slice pb bls.length cb):=HU5.out.bk.cell 13
 have HVL:Hid (vs.length=bls.length):=HU5.out.tb.len
 have HE2:Hid (uc E.f E.np st (.mk p r bls)=match kC E.f E.np ⟨l6,st.pl+1,nw,gs⟩ bls with|.error e=>.error e|.ok (st2,bls')=>.ok (st2,.mk p6 r6 bls')):=by show _=_;rw[HEQ.out,HHP.out]
 replace hrl:=aa hrl
 clear q4 g hk8 HU HU2 HU3 HU4 HU5 Q1 Q2 Q3
 go_wp2_with fail
 clear c13
 go_loopw [64] (fun i wr=>∃(vs1 vs2:List Value) (st1:St) (lv1:Value) (L:List Nat) (l1 l2:List (List dx)) (Q1 Q2:Nat→Prop),i=.int .i64 vs1.length∧Hid (SB w wr E bf bl b P Q p6 (.slice pr r.length cr) (.slice pb bls.length cb) r6 vs vs1 vs2 (done++[b]) (kC E.f E.np ⟨l6,st.pl+1,nw,gs⟩ bls) st1 lv1 L l1 l2 Q1 Q2)∧Hid (∀l,l∈l2→jb l)) (fun i _=>bls.length-(intOf i).toNat)
 case atStart=>exact⟨[],vs,_,_,[],[],bls,_,_,rfl,HB0,HBB⟩
 case round=>
  obtain⟨vs1,vs2,st1,lv1,L,l1,l2,Q1,Q2,rfl,HR,HBL⟩:=hrel
  have hev:=HR.out.ev
  rcases vs2 with _|⟨v,vs2⟩
  ·have hl2:l2=[]:=by have:=HR.out.t2;cases this;rfl
   have hkl:¬((vs1.length:Int)< (bls.length:Int)):=by rw[←HVL.out,hev];simp
   clear hev
   go_wp2_with fail
   first|go_end0|refine bodyPost_ret (results_none rfl _ _ _) rfl ?_
   subst hl2
   obtain⟨d1,d2,d3,d4,d5⟩:=HR.out.done HF.out
   rw[d1]at HE2
   exact⟨HR.out.kp,Or.inl ⟨st1,_,lv1,b::L,HE2.out,rfl,d2,d3,d4,d5⟩⟩
  ·rcases l2 with _|⟨l,l2⟩
   ·have:=HR.out.t2;cases this
   have hlen:vs1.length< bls.length:=by rw[←HVL.out,hev];simp
   have hkl:(vs1.length:Int)< (bls.length:Int):=by omega
   have hvb:∃gv,pb=some ⟨gv,0,none⟩:=by
    have hbr:=HR.out.brow.1
    rw[HVL.out]at hbr
    obtain⟨g,c,e⟩:=aG hbr (by omega)
    cases e;exact⟨g,rfl⟩
   obtain⟨gv,rfl⟩:=hvb
   have hcell:wr.cell? ⟨gv,vs1.length,none⟩=some v:=by
    have h:=HR.out.brow.1
    rw[HVL.out]at h
    rw[h.cellAt _ (by omega),hev]
    simp
   have hcell':wr.cell? ⟨gv,vs1.length*1,none⟩=some v:=by rw[Nat.mul_one];exact hcell
   clear hev
   obtain⟨Qx,Rx,bb,g1,g2,g3,gq,gr⟩:∃(Qx Rx:Nat→Prop) (bb:List Nat),cA wr Q2 133 1 v bb.length (dW bb)∧bB wr Qx bb l∧cD wr Rx vs2 l2∧(∀i,Qx i→Q2 i∧v.ownBlock≠some i∧¬Rx i)∧(∀i,Rx i→Q2 i∧v.ownBlock≠some i):=by
    have:=HR.out.t2
    cases this with
    |cons h1 h2 h3 hq hr=>exact⟨_,_,_,h1,h2,h3,hq,hr⟩
   have hpok:=HR.out.ok
   rw[km]at hpok
   have hQ2:∀i,Q2 i→P i:=fun i hi=>(HF.out.sep.q i (HR.out.q2 i hi)).1
   have HC:=aa (HBL.out l (by simp) wr E bf bl Qx (fun i=>v.ownBlock=some i) bb v st1 lv1 (done++[b]++L) HR.out.nw HR.out.fw HF.out.sy (fun i hi=>HF.out.fp i (hQ2 i (gq i hi).1)) (fun i hi=>HF.out.fp i (hQ2 i (g1.2 i hi))) (fun i hi e=>(gq i e).2.1 hi) ⟨g1.1,fun i hi=>hi⟩ g2 hpok.1.1 hpok.1.2)
   have HG:=aa (And.intro g1 (And.intro g3 (And.intro gq gr)))
   have HWQ:Hid (∀i,iD E bl Qx i→iD E bl P i):=iD.mono (fun i hi=>hQ2 i (gq i hi).1)
   clear g1 g2 g3 gq gr hpok hQ2
   go_wp2_with fail
   refine HC.out.mono ?_
   rintro e w9 ⟨hk9,⟨st2,l',lv2,L2,e2,rfl,n2,f2,t2,d2⟩|⟨er,a,e2,b2,rfl,h3⟩⟩
   ·have HN:=aa (HR.out.next HF.out HG.out.1 HG.out.2.1 HG.out.2.2.1 HG.out.2.2.2 hk9 e2 n2 f2 t2 d2)
    have HBL2:Hid (∀x,x∈l2→jb x):=fun x hx=>HBL.out x (by simp[hx])
    clear hk9 e2 n2 f2 t2 d2
    go_wp2_with fail
    go_roundw
    case rel=>exact⟨vs1++[v],vs2,st2,lv2,L++L2,l1++[l'],l2,_,_,by simp,HN,HBL2⟩
    case measure=>simp[intOf];omega
   ·have HE3:Hid (kC E.f E.np ⟨l6,st.pl+1,nw,gs⟩ bls=.error (er,a)):=by show _=_;rw[HR.out.eq,kC,e2]
    have HK:=aa (HR.out.kp.trans (hk9.mono HWQ.out))
    replace h3:=aa h3
    clear hk9 e2
    go_wp2_with fail
    refine⟨rfl,HK.out,Or.inr ⟨er,a,?_,b2,rfl,h3.out⟩⟩
    rw[HE2.out,HE3.out]
end
section
open Go.RowKit Go.Maps
theorem ug(s:dx):gH s:=by
 refine dx.rec (motive_1:=fun s=>gH s) (motive_2:=fun ls=>∀l,l∈ls→∀s,s∈l→gH s) (motive_3:=fun l=>∀s,s∈l→gH s) ?_ ?_ ?_ ?_ ?_ s
 ·intro p r bls ih
  exact Bc (fun l hl=>vT (ih l hl))
 ·intro l hl;simp at hl
 ·intro l ls h1 h2 x hx
  rcases List.mem_cons.1 hx with rfl|hx
  ·exact h1
  ·exact h2 x hx
 ·intro s hs;simp at hs
 ·intro s l h1 h2 x hx
  rcases List.mem_cons.1 hx with rfl|hx
  ·exact h1
  ·exact h2 x hx
theorem rT(l:List dx):jb l:=vT (fun s _=>ug s)
end
end Go.Proofs.YtmdaflepdaiabaaGreatDoor
