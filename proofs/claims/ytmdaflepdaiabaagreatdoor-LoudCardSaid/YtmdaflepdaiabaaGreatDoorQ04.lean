import Derived.Test.YtmdaflepdaiabaaGreatDoorQ03
set_option linter.unusedSimpArgs false
set_option linter.unusedVariables false
namespace Go.Proofs.YtmdaflepdaiabaaGreatDoor
section
open Go.RowKit
inductive dx where
 |mk (p:Ph) (r:List Pa) (bls:List (List dx))
def rD(t:aI):Pa:=⟨ki t,yH t,0,pq t⟩
theorem xK(l:List aI):et (l.map rD)=db l:=by
 induction l with
 |nil=>rfl
 |cons a l ih=>simp only[et,db,List.map_cons,List.flatMap_cons]at ih⊢;rw[ih];rfl
def uN{α:Type}(h:Hd)(b e:List α):List (List α):=if h.op=14 then[b]else if h.op=13 then(if h.has then[b,e]else[b])else[]
mutual
def js:jG→dx
 |.mk h body els=>.mk (em h) ((bD h).map rD) (uN h (cP body) (cP els))
def cP:List jG→List dx
 |[]=>[]
 |s::l=>js s::cP l
end
theorem pJ(l:List jG)(s:jG):cP (l++[s])=cP l++[js s]:=by
 induction l with
 |nil=>simp[cP]
 |cons a l ih=>simp[cP,ih]
structure zb(P Q:Nat→Prop)(b:Nat)(sr sb:Value):Prop where
 q:∀i,Q i→P i∧i≠b∧sr.ownBlock≠some i∧sb.ownBlock≠some i
 rb:sr.ownBlock≠some b
 bb:sb.ownBlock≠some b
 rs:∀i,sr.ownBlock=some i→sb.ownBlock≠some i
mutual
inductive fI(w:World):(Nat→Prop)→Nat→dx→Prop
 |mk {P Q:Nat→Prop} {b:Nat} {p:Ph} {sr sb:Value} {r:List Pa} {bls:List (List dx)} {vs:List Value}:P b→an w b (aK p sr sb)→
   cA w P 193 4 sr r.length (et r)→cA w P 81 1 sb bls.length vs→cD w Q vs bls→zb P Q b sr sb→fI w P b (.mk p r bls)
inductive bB(w:World):(Nat→Prop)→List Nat→List dx→Prop
 |nil {P:Nat→Prop}:bB w P [] []
 |cons {P Q R:Nat→Prop} {b:Nat} {s:dx} {bs:List Nat} {l:List dx}:fI w Q b s→bB w R bs l→(∀i,Q i→P i∧¬R i)→(∀i,R i→P i)→bB w P (b::bs) (s::l)
inductive cD(w:World):(Nat→Prop)→List Value→List (List dx)→Prop
 |nil {P:Nat→Prop}:cD w P [] []
 |cons {P Q R:Nat→Prop} {v:Value} {bb:List Nat} {vs:List Value} {l:List dx} {ls:List (List dx)}:cA w P 133 1 v bb.length (dW bb)→bB w Q bb l→cD w R vs ls→
   (∀i,Q i→P i∧v.ownBlock≠some i∧¬R i)→(∀i,R i→P i∧v.ownBlock≠some i)→cD w P (v::vs) (l::ls)
end
theorem cA.keep{w w':World}{P P' S:Nat→Prop}{e size n:Nat}{v:Value}{xs:List Value}(k:ae S w w')(h0:∀b,P b→b< w.heap.size∧¬S b∧P' b)(h:cA w P e size v n xs):cA w' P' e size v n xs:=
 h.move (fun b hb=>⟨(h0 b hb).2.2,k.block b (h0 b hb).1 (h0 b hb).2.1⟩)
abbrev Cb(S:Nat→Prop)(w:World)(P P':Nat→Prop):Prop:=∀b,P b→b< w.heap.size∧¬S b∧P' b
theorem zb.mono{P P' Q:Nat→Prop}{b:Nat}{sr sb:Value}(h:zb P Q b sr sb)(hP:∀i,P i→P' i):zb P' Q b sr sb:=⟨fun i hi=>⟨hP i (h.q i hi).1,(h.q i hi).2⟩,h.rb,h.bb,h.rs⟩
theorem fI.keep{w w':World}{P P' S:Nat→Prop}(k:ae S w w')(h0:∀b,P b→b< w.heap.size∧¬S b∧P' b){b:Nat}{s:dx}(h:fI w P b s):fI w' P' b s:=by
 refine fI.rec (motive_1:=fun P b s _=>∀P',Cb S w P P'→fI w' P' b s) (motive_2:=fun P bs l _=>∀P',Cb S w P P'→bB w' P' bs l) (motive_3:=fun P vs ls _=>∀P',Cb S w P P'→cD w' P' vs ls) ?_ ?_ ?_ ?_ ?_ h P' h0
 ·intro P Q b p sr sb r bls vs hp hb h1 h2 _ hs ih P' h0
  exact fI.mk (h0 b hp).2.2 (hb.kept k (h0 b hp).2.1) (h1.keep k h0) (h2.keep k h0) (ih Q (fun i hi=>⟨(h0 i (hs.q i hi).1).1,(h0 i (hs.q i hi).1).2.1,hi⟩)) (hs.mono (fun i hi=>(h0 i hi).2.2))
 ·intro P P' _
  exact bB.nil
 ·intro P Q R b s bs l _ _ hq hr ih1 ih2 P' h0
  exact bB.cons (ih1 Q (fun i hi=>⟨(h0 i (hq i hi).1).1,(h0 i (hq i hi).1).2.1,hi⟩)) (ih2 R (fun i hi=>⟨(h0 i (hr i hi)).1,(h0 i (hr i hi)).2.1,hi⟩)) (fun i hi=>⟨(h0 i (hq i hi).1).2.2,(hq i hi).2⟩) (fun i hi=>(h0 i (hr i hi)).2.2)
 ·intro P P' _
  exact cD.nil
 ·intro P Q R v bb vs l ls h1 _ _ hq hr ih2 ih3 P' h0
  exact cD.cons (h1.keep k h0) (ih2 Q (fun i hi=>⟨(h0 i (hq i hi).1).1,(h0 i (hq i hi).1).2.1,hi⟩)) (ih3 R (fun i hi=>⟨(h0 i (hr i hi).1).1,(h0 i (hr i hi).1).2.1,hi⟩)) (fun i hi=>⟨(h0 i (hq i hi).1).2.2,(hq i hi).2⟩) (fun i hi=>⟨(h0 i (hr i hi).1).2.2,(hr i hi).2⟩)
theorem bB.keep{w w':World}{P P' S:Nat→Prop}(k:ae S w w')(h0:∀b,P b→b< w.heap.size∧¬S b∧P' b){bs:List Nat}{l:List dx}(h:bB w P bs l):bB w' P' bs l:=by
 induction bs generalizing l P P' with
 |nil=>cases h;exact bB.nil
 |cons b bs ih=>cases h with|cons h1 h2 hq hr=>exact bB.cons (h1.keep (P':=_) k (fun i hi=>⟨(h0 i (hq i hi).1).1,(h0 i (hq i hi).1).2.1,hi⟩)) (ih (fun i hi=>⟨(h0 i (hr i hi)).1,(h0 i (hr i hi)).2.1,hi⟩) h2) (fun i hi=>⟨(h0 i (hq i hi).1).2.2,(hq i hi).2⟩) (fun i hi=>(h0 i (hr i hi)).2.2)
theorem cD.keep{w w':World}{P P' S:Nat→Prop}(k:ae S w w')(h0:∀b,P b→b< w.heap.size∧¬S b∧P' b){vs:List Value}{ls:List (List dx)}(h:cD w P vs ls):cD w' P' vs ls:=by
 induction vs generalizing ls P P' with
 |nil=>cases h;exact cD.nil
 |cons v vs ih=>cases h with|cons h1 h2 h3 hq hr=>exact cD.cons (h1.keep k h0) (h2.keep (P':=_) k (fun i hi=>⟨(h0 i (hq i hi).1).1,(h0 i (hq i hi).1).2.1,hi⟩)) (ih (fun i hi=>⟨(h0 i (hr i hi).1).1,(h0 i (hr i hi).1).2.1,hi⟩) h3) (fun i hi=>⟨(h0 i (hq i hi).1).2.2,(hq i hi).2⟩) (fun i hi=>⟨(h0 i (hr i hi).1).2.2,(hr i hi).2⟩)
theorem bB.snoc{w:World}{P P' Q:Nat→Prop}{bs:List Nat}{l:List dx}{b:Nat}{s:dx}(h:bB w P bs l)(hs:fI w Q b s)(h1:∀i,P i→P' i∧¬Q i)(h2:∀i,Q i→P' i):bB w P' (bs++[b]) (l++[s]):=by
 induction bs generalizing l P P' with
 |nil=>cases h;exact bB.cons (R:=fun _=>False) hs bB.nil (fun i hi=>⟨h2 i hi,fun e=>e⟩) (fun i hi=>hi.elim)
 |cons c bs ih=>
  cases h with
  |@cons _ Q' R _ _ _ _ g1 g2 hq hr=>exact bB.cons (R:=fun i=>R i∨Q i) g1 (ih g2 (fun i hi=>⟨Or.inl hi,(h1 i (hr i hi)).2⟩) (fun i hi=>Or.inr hi)) (fun i hi=>⟨(h1 i (hq i hi).1).1,fun e=>e.elim (hq i hi).2 (h1 i (hq i hi).1).2⟩) (fun i hi=>hi.elim (fun e=>(h1 i (hr i e)).1) (h2 i))
abbrev cV(w w':World):Nat→Prop:=fun b=>w.heap.size≤b∧b< w'.heap.size
theorem pN{ts:List aI}{body:Nat→PV→List jG×PV}{d:Nat}{pv:PV}(h1:(pv.v.here ts).text≠[105,102])(h2:(pv.v.here ts).text≠[119,104,105,108,101]):
  dH ts body d pv=(.mk (cH ts (kR pv ts) pv.v).1 [] [],⟨(cH ts (kR pv ts) pv.v).2.must ts [59],eE pv ts⟩):=by
 unfold dH cH
 by_cases e1:(pv.v.here ts).text=[108,111,99,107]
 ·simp[e1]
 by_cases e2:(pv.v.here ts).text=[117,110,108,111,99,107]
 ·simp[e2]
 by_cases e3:(pv.v.here ts).text=[106,111,105,110]
 ·simp[e3]
 by_cases e4:(pv.v.here ts).text=[114,101,116,117,114,110]
 ·simp only[e4]
  by_cases e5:(pv.v.go1 ts).at ts [59]=true
  ·simp[e5]
  ·simp[e5]
 by_cases e6:(pv.v.here ts).text=[103,111]
 ·simp[e6]
 ·simp[e1,e2,e3,e4,e6,h1,h2]
theorem jL{ts:List aI}{body:Nat→PV→List jG×PV}{d:Nat}{pv:PV}(h:(pv.v.here ts).text=[105,102]∨(pv.v.here ts).text=[119,104,105,108,101]):
  dH ts body d pv=iy ts body d (kR pv ts) ⟨pv.v,eE pv ts⟩:=by
 unfold dH
 rcases h with h|h<;>simp[h]
end
section
set_option maxRecDepth 100000
set_option maxHeartbeats 4000000
open Go.RowKit
def tF(ts:List aI)(f:Nat):Prop:=∀(w:World) (br bw:Nat) (s:ByteArray) (pv:PV) (d:Nat),RV w br bw s ts pv.v (d+1)→d≤5→dT pv→ts.length≤f+1+pv.v.i→
 Calls Tryz.prog 59 #[.pointer (some ⟨br,0,none⟩)] w fun r w'=>ig w w' br bw s ts (dH ts (aD ts f) d pv).2.v (d+1) r (fun r w'=>∃bs,r=.returned (ak bs)∧fI w' (cV w w') bs (js (dH ts (aD ts f) d pv).1))
def ja(ts:List aI)(f:Nat):Prop:=∀(w:World) (br bw:Nat) (s:ByteArray) (pv:PV) (d:Nat),RV w br bw s ts pv.v d→d≤6→dT pv→ts.length≤f+pv.v.i→
 Calls Tryz.prog 43 #[.pointer (some ⟨br,0,none⟩)] w fun r w'=>ig w w' br bw s ts (aW ts (aD ts f) d pv).2.v d r (fun r w'=>∃u bb,r=.returned u∧cA w' (cV w w') 133 1 u bb.length (dW bb)∧bB w' (fun b=>cV w w' b∧u.ownBlock≠some b) bb (cP (aW ts (aD ts f) d pv).1))
theorem mJ{ts:List aI}{pv:PV}{d f:Nat}(h:(eM ts d pv.v).ok=false):(aW ts (aD ts f) d pv).2.v=eM ts d pv.v:=by
 unfold aW
 rw[kv (pv:=⟨eM ts d pv.v,pv.ats⟩) h]
 exact V.must_no h _
theorem pM{ts:List aI}{g d:Nat}{pv:PV}(h:pv.v.at ts [125]=true):aD ts g d pv=([],pv):=by
 cases g with
 |zero=>rfl
 |succ g=>rw[aD,if_pos (by simp[h])]
theorem tL{ts:List aI}{g d:Nat}{pv:PV}(h:pv.v.at ts [125]=false)(hok:pv.v.ok=true):aD ts (g+1) d pv=((dH ts (aD ts g) d pv).1::(aD ts g d (dH ts (aD ts g) d pv).2).1,(aD ts g d (dH ts (aD ts g) d pv).2).2):=by
 rw[aD,if_neg (by simp[h,hok])]
theorem RV.depth{w:World}{br bw:Nat}{s:ByteArray}{ts:List aI}{v:V}{d:Nat}(h:RV w br bw s ts v d)(n:Nat)(z:Int)(e:z=n):RV (w.setCell ⟨br,4,none⟩ (.int .i64 z)) br bw s ts v n:=by
 subst e
 exact⟨h.rb.set 4 _ (by simp),h.wb.setO br 4 _ (fun e=>h.ne e.symm),h.ne,h.ok,h.lt,h.x,h.tk,h.sz⟩
structure BT(w wr:World)(br bw:Nat)(s:ByteArray)(ts:List aI)(f g d:Nat)(R:List jG×PV)(l:Value)(acc:List jG)(bb:List Nat)(pv:PV):Prop where
 gf:g≤f
 own:wr.ownsRow w.heap.size 133 1 l bb.length (dW bb)
 rep:bB wr (fun b=>w.heap.size≤b∧b< wr.heap.size∧l.ownBlock≠some b) bb (cP acc)
 rv:RV wr br bw s ts pv.v (d+1)
 kp:ae (eZ br bw) w wr
 good:dT pv
 fuel:ts.length≤g+pv.v.i
 few:bb.length≤pv.v.i
 eq:R=(acc++(aD ts g d pv).1,(aD ts g d pv).2)
theorem kj:(Tryz.prog.info? 133).map (fun i=>(i.zero,i.size,i.bytes))=some (some (.pointer none),1,8):=by kernel_rfl
theorem zG{ts:List aI}{f:Nat}(hS:∀g,g< f→tF ts g):ja ts f:=by
 intro w br bw s pv d h hd6 hg hf
 obtain⟨i0,hi,hz0,hz1,hz2⟩:=info_parts kj
 have HS:=aa hS
 have HV:=aa h
 have HT:=aa h.tk
 have HG:=aa hg
 have hbr:=h.rb.lt
 have hbw:=h.wb.lt
 have h7:ts.length≤701:=by have:=h.tk.len;rw[bJ]at this;have:=h.sz;omega
 have c3:=h.rb.cell 3
 have c3':w.cell? ⟨br,1+2,none⟩=some (.int .i64 (pv.v.here ts).at_):=h.rb.cell 3
 have c4:w.cell? ⟨br,4,none⟩=some (.int .i64 d):=h.rb.cell 4
 have HTW:Hid (∀i,eZ br bw i→i< w.heap.size):=fun i e=>by rcases e with e|e<;>omega
 have HBV:Hid (eM ts d pv.v=(if pv.v.at ts [123]&&decide (6≤d)then pv.v.flt 6 (pv.v.here ts).at_ else pv.v).must ts [123]):=rfl
 clear hS h hg
 by_cases hdp:pv.v.at ts [123]=true∧d=6
 ·obtain⟨hat,rfl⟩:=hdp
  have HAT:=aa hat
  have HF6:=aa (V.flt_yes HV.out.ok 6 (pv.v.here ts).at_ (by decide))
  have HBB:Hid (eM ts 6 pv.v=pv.v.flt 6 (pv.v.here ts).at_):=by show _=_;rw[HBV.out,hat];simp[V.must_no HF6.out.1]
  clear hat
  go_enter Tryz.func43,Tryz.ntmps43
  go_wp2_with fail
  refine(pE HV.out ⟨#[123]⟩).mono ?_
  rintro e wq ⟨rfl,hq⟩
  subst wq
  rw[show V.at ts pv.v (ByteArray.mk #[123]).data.toList=true from HAT.out]
  go_wp2_with fail
  refine(bo 6 (pv.v.here ts).at_ w).mono ?_
  rintro e w1 ⟨⟨b,rfl,h3⟩,h4⟩
  replace h3:=aa h3
  replace h4:=aa h4
  go_wp2_with fail
  have e:=mJ (f:=f) (pv:=pv) (d:=6) (ts:=ts) (by rw[HBB.out];exact HF6.out.1)
  rw[e,HBB.out]
  exact⟨rfl,ae.of_below h4.out,Or.inr ⟨HF6.out.1,b,rfl,by rw[HF6.out.2.1,HF6.out.2.2];exact h3.out⟩⟩
 ·have HBB:Hid (eM ts d pv.v=pv.v.must ts [123]):=by
   show _=_
   rw[HBV.out]
   cases hat:pv.v.at ts [123]
   ·rfl
   ·have:¬6≤d:=fun e=>hdp ⟨hat,by omega⟩
    simp[this]
  have HB6:Hid (pv.v.at ts [123]=true→((d:Int)==6)=false):=fun e=>by rw[beq_eq_false_iff_ne];intro e2;exact hdp ⟨e,by omega⟩
  have HDP:=aa hdp
  clear hdp
  go_enter Tryz.func43,Tryz.ntmps43
  go_wp2_with fail
  refine(pE HV.out ⟨#[123]⟩).mono ?_
  rintro e wq ⟨rfl,hq⟩
  subst wq
  have hgoal:True:=trivial
  cases hat:pv.v.at ts [123]
  case' false=>
   clear hat
   go_wp2_with fail
  case' true=>
   have hb6:=HB6.out hat
   clear hat
   go_wp2_with fail
  all_goals
   clear hgoal c3 c3' c4
   refine(fk HV.out ⟨#[123]⟩).mono ?_
   rintro e w1 ⟨hk1,hx⟩
   have HK1:=aa hk1
   clear hk1
   rcases hx with⟨h3,h4,rfl⟩|⟨h3,b,rfl,h4⟩
   case inr=>
    have HO:Hid ((pv.v.must ts [123]).ok=false∧an w1 b #[.int .i64 (pv.v.must ts [123]).e,.int .i64 (pv.v.must ts [123]).a]):=⟨h3,h4⟩
    clear h3 h4
    go_wp2_with fail
    have e:=mJ (f:=f) (pv:=pv) (d:=d) (ts:=ts) (by rw[HBB.out];exact HO.out.1)
    rw[e,HBB.out]
    exact⟨rfl,HK1.out,Or.inr ⟨HO.out.1,b,rfl,HO.out.2⟩⟩
   case inl=>
   have HV1:Hid (RV w1 br bw s ts (pv.v.must ts [123]) d):=h4
   clear h3 h4
   have HD5:Hid (d≤5):=by
    show d≤5
    cases hat:pv.v.at ts [123]
    ·have h1:=HV1.out.ok
     rw[V.must_not HV.out.ok hat,(V.flt_yes HV.out.ok 5 _ (by decide)).1]at h1
     cases h1
    ·have:=HDP.out
     have:d≠6:=fun e=>this ⟨hat,e⟩
     omega
   have HAD:=aa (cK.must [123] HT.out HV.out.lt)
   have HR:Hid (aW ts (aD ts f) d pv=((aD ts f d ⟨pv.v.must ts [123],pv.ats⟩).1,⟨(aD ts f d ⟨pv.v.must ts [123],pv.ats⟩).2.v.must ts [125],(aD ts f d ⟨pv.v.must ts [123],pv.ats⟩).2.ats⟩)):=by show _=_;unfold aW;rw[HBB.out]
   have HG1:Hid (dT ⟨pv.v.must ts [123],pv.ats⟩):=fun x=>by have:=HG.out HV.out.ok;have:=(HAD.out.ok x).2;show pv.ats.length≤(pv.v.must ts [123]).i;omega
   have hf1:ts.length≤f+(pv.v.must ts [123]).i:=by have:=(HAD.out.ok HV1.out.ok).2;omega
   have c4:w1.cell? ⟨br,4,none⟩=some (.int .i64 d):=HV1.out.rb.cell 4
   have cf:=HV1.out.rb.fz
   have hbr1:=HV1.out.rb.lt
   have HV2:=aa (HV1.out.depth (d+1) ((d:Int)+1) (by omega))
   have HK2:Hid (ae (eZ br bw) w (w1.setCell ⟨br,4,none⟩ (.int .i64 ((d:Int)+1)))):=HK1.out.setCell (p:=⟨br,4,none⟩) (Or.inl (Or.inl rfl)) _
   generalize hR:aD ts f d ⟨pv.v.must ts [123],pv.ats⟩=R at *
   replace hR:=aa hR
   generalize hvb:pv.v.must ts [123]=vb at *
   replace hvb:=aa hvb
   go_wp2_with fail
   clear c4 cf
   go_loopg [3] f (fun g l wr=>∃acc bb pv1,Hid (BT w wr br bw s ts f g d R l acc bb pv1))
   case atStart=>exact⟨[],[],⟨vb,pv.ats⟩,Nat.le_refl _,World.ownsRow_nil _ _ _ _,by rw[cP];exact bB.nil,HV2.out,HK2.out,HG1.out,hf1,Nat.zero_le _,by rw[hR.out];simp⟩
   case round=>
    obtain⟨acc,bb,pv1,HL⟩:=hrel
    have HU:=aa HL.out.rv
    have hfew:=HL.out.few
    have hu7:=HL.out.rv.lt
    cases hc:pv1.v.at ts [125]
    ·have HC:=aa hc
     have hgk:=HL.out.fuel
     obtain⟨g',rfl⟩:∃g',gk=g'+1:=⟨gk-1,by omega⟩
     have HST:=aa (HS.out g' (by have:=HL.out.gf;omega))
     have HEQ:=aa (HL.out.eq.trans (by rw[tL hc HL.out.rv.ok]))
     have HSO:=aa (eQ.stmt HT.out (eQ.stmts HT.out g') d pv1 HL.out.good HL.out.rv.lt)
     clear hc
     go_wp2_with fail
     refine(pE HU.out ⟨#[125]⟩).mono ?_
     rintro e wq ⟨rfl,hq⟩
     subst wq
     rw[show V.at ts pv1.v (ByteArray.mk #[125]).data.toList=false from HC.out]
     go_wp2_with fail
     refine(HST.out wr br bw s pv1 d HU.out HD5.out HL.out.good (by omega)).mono ?_
     rintro e w3 ⟨hk3,hx⟩
     have HK3:=aa hk3
     clear hk3
     rcases hx with⟨h3,h4,b3,rfl,h5⟩|⟨h3,b,rfl,h4⟩
     case inr=>
      have HO:Hid ((dH ts (aD ts g') d pv1).2.v.ok=false∧an w3 b #[.int .i64 (dH ts (aD ts g') d pv1).2.v.e,.int .i64 (dH ts (aD ts g') d pv1).2.v.a]):=⟨h3,h4⟩
      clear h3 h4
      go_wp2_with fail
      have e:(aW ts (aD ts f) d pv).2.v=(dH ts (aD ts g') d pv1).2.v:=by
       rw[HR.out,HEQ.out,kv HO.out.1]
       exact V.must_no HO.out.1 _
      rw[e]
      exact⟨rfl,HL.out.kp.trans HK3.out,Or.inr ⟨HO.out.1,b,rfl,HO.out.2⟩⟩
     case inl=>
     have hown3:=aU HL.out.own HK3.out HTW.out
     have HV3:=aa h4
     have HB3:=aa h3
     have HREP3:=aa h5
     have HK3w:=aa (HL.out.kp.trans HK3.out)
     have hz3:w.heap.size≤w3.heap.size:=HK3w.out.size
     have hzr:w.heap.size≤wr.heap.size:=HL.out.kp.size
     clear h3 h4 h5
     go_wp2_with (at_builtin;refine aq rfl _ _ 81 rfl w.heap.size 133 i0 (.pointer none) 1 8 Tryz.underlying81 hi hz0 hz1 hz2 rfl (by decide) _ _ _ rfl (hown3.alloc _) ⟨w3.heap.size,0,none⟩ 1 1 [ak b3] rfl rfl (aF _ _ _ _ (by simp)) (by intro u hu;simp at hu;subst hu;rfl) (by decide) (by unfold maxLen;omega) (by omega) (by simp;omega) ?_;intro l4 w4 hown4 hgrow4 hwh4)
     have hk4:ae (fun k=>u3.ownBlock=some k) w3 w4:=((ae.refl _ w3).alloc _).grown hgrow4 (fun k hk=>Or.inl hk)
     have HLN:Hid (BT w w4 br bw s ts f g' d R l4 (acc++[(dH ts (aD ts g') d pv1).1]) (bb++[b3]) (dH ts (aD ts g') d pv1).2):=by
      have hadv:=(HSO.out.2.ok HB3.out).2
      have hlo:∀k,u3.ownBlock=some k→w.heap.size≤k∧k< wr.heap.size:=fun k hk=>HL.out.own.lt k hk
      have hz4:=hk4.size
      have hzr3:=HK3.out.size
      have hl4:∀b,b< w3.heap.size→u3.ownBlock≠some b→l4.ownBlock≠some b:=fun b hb hn e=>by
       rcases hwh4 with h|h
       ·rw[h]at e;exact hn e
       ·rw[h]at e;simp at e;omega
      refine⟨by have:=HL.out.gf;omega,?_,?_,?_,?_,HSO.out.1,by omega,by simp;omega,?_⟩
      ·rw[ky];simpa using hown4
      ·rw[pJ]
       have h1:bB w3 (fun b=>w.heap.size≤b∧b< wr.heap.size∧u3.ownBlock≠some b) bb (cP acc):=HL.out.rep.keep HK3.out (fun b hb=>⟨hb.2.1,fun e=>by have:=HTW.out b e;omega,hb⟩)
       have h2:bB w4 (fun b=>w.heap.size≤b∧b< wr.heap.size∧u3.ownBlock≠some b) bb (cP acc):=h1.keep hk4 (fun b hb=>⟨by omega,hb.2.2,hb⟩)
       have h3:fI w4 (cV wr w3) b3 (js (dH ts (aD ts g') d pv1).1):=HREP3.out.keep hk4 (fun b hb=>⟨hb.2,fun e=>by have:=(hlo b e).2;have:=hb.1;omega,hb⟩)
       exact h2.snoc h3 (fun b hb=>⟨⟨hb.1,by omega,hl4 b (by omega) hb.2.2⟩,fun e=>by have:=e.1;omega⟩) (fun b hb=>⟨by have:=hb.1;omega,by have:=hb.2;omega,hl4 b hb.2 (fun e=>by have:=(hlo b e).2;have:=hb.1;omega)⟩)
      ·exact HV3.out.kept hk4 (fun e=>by have:=(hlo _ e).1;omega) (fun e=>by have:=(hlo _ e).1;omega)
      ·exact HK3w.out.trans' hk4 (fun i e=>Or.inr (hlo i e).1)
      ·rw[HEQ.out];simp
     clear hk4 hgrow4 hwh4 hown4 hown3
     go_wp2_with fail
     go_roundg g'
     case measure=>omega
     case rel=>exact⟨_,_,_,HLN⟩
    ·have HC:=aa hc
     have HEQ:=aa (HL.out.eq.trans (by rw[pM hc]))
     have HOP:=aa (V.at_open hc)
     have HMY:=aa (V.must_yes hc)
     clear hc
     go_wp2_with fail
     refine(pE HU.out ⟨#[125]⟩).mono ?_
     rintro e wq ⟨rfl,hq⟩
     subst wq
     rw[show V.at ts pv1.v (ByteArray.mk #[125]).data.toList=true from HC.out]
     go_wp2_with fail
     refine(nZ HU.out HOP.out).mono ?_
     rintro e w3 ⟨hk3,hx⟩
     have HK3:=aa hk3
     clear hk3
     have HFIN:Hid ((aW ts (aD ts f) d pv).2.v=pv1.v.go1 ts∧(aW ts (aD ts f) d pv).1=acc):=by
      rw[HR.out,HEQ.out]
      exact⟨HMY.out,by simp⟩
     rcases hx with⟨h3,h4,rfl⟩|⟨h3,b,rfl,h4⟩
     case inr=>
      have HO:Hid ((pv1.v.go1 ts).ok=false∧an w3 b #[.int .i64 (pv1.v.go1 ts).e,.int .i64 (pv1.v.go1 ts).a]):=⟨h3,h4⟩
      clear h3 h4
      go_wp2_with fail
      rw[HFIN.out.1]
      exact⟨rfl,HL.out.kp.trans HK3.out,Or.inr ⟨HO.out.1,b,rfl,HO.out.2⟩⟩
     case inl=>
     have HV3:=aa h4
     have HB3:=aa h3
     have c4:w3.cell? ⟨br,4,none⟩=some (.int .i64 (d+1:Nat)):=h4.rb.cell 4
     have cf:=h4.rb.fz
     have hcast:((d+1:Nat):Int)=(d:Int)+1:=by omega
     rw[hcast]at c4
     clear h3 h4 hcast
     go_wp2_with fail
     go_ret
     have hk4:=(ae.refl (ao br) w3).set1 4 (.int .i64 (d:Int))
     have hz3:=HK3.out.size
     have hzr:=HL.out.kp.size
     rw[HFIN.out.1,HFIN.out.2]
     refine⟨(HL.out.kp.trans HK3.out).setCell (p:=⟨br,4,none⟩) (Or.inl (Or.inl rfl)) _,Or.inl ⟨HB3.out,HV3.out.depth d _ rfl,_,bb,rfl,?_,?_⟩⟩
     ·have hown:=aJ (aU HL.out.own HK3.out HTW.out) 4 (.int .i64 (d:Int)) hbr
      exact⟨bz hown (Nat.zero_le _),fun k hk=>⟨(hown.lt k hk).1,(hown.lt k hk).2⟩⟩
     ·have h1:bB w3 (fun b=>w.heap.size≤b∧b< wr.heap.size∧u3.ownBlock≠some b) bb (cP acc):=HL.out.rep.keep HK3.out (fun b hb=>⟨hb.2.1,fun e=>by have:=HTW.out b e;omega,hb⟩)
      exact h1.keep hk4 (fun b hb=>⟨by have:=hb.2.1;omega,fun e=>by have:b=br:=e;have:=hb.1;omega,⟨hb.1,by have:=hb.2.1;simp[World.setCell];omega⟩,hb.2.2⟩)
end
section
set_option maxRecDepth 100000
set_option maxHeartbeats 4000000
open Go.RowKit
theorem kl:(Tryz.prog.info? 81).map (fun i=>(i.zero,i.size,i.bytes))=some (some (.slice none 0 0),1,24):=by kernel_rfl
theorem mV.good{S:Nat→Prop}{w w':World}{br bw:Nat}{s:ByteArray}{ts:List aI}{v:V}{dep:Nat}{r:Ending}{R:Ending→World→Prop}(h:mV S w w' br bw s ts v dep r R)(hok:v.ok=true):ae S w w'∧RV w' br bw s ts v dep∧R r w':=by
 rcases h.2 with h2|h2
 ·exact⟨h.1,h2.2⟩
 ·rw[hok]at h2;exact absurd h2.1 (by decide)
theorem aL{w w':World}{S:Nat→Prop}{B e size n:Nat}{v:Value}{xs:List Value}(h:w.ownsRow B e size v n xs)(k:ae S w w')(hS:∀i,v.ownBlock=some i→¬S i):w'.ownsRow B e size v n xs:=by
 refine⟨h.1,?_⟩
 rcases h.2 with hn|⟨g,cap,cur,hv,hg,hh,r⟩
 ·exact Or.inl hn
 ·exact Or.inr ⟨g,cap,cur,hv,hg,by rw[k.block g (h.lt g (by rw[hv];rfl)).2 (hS g (by rw[hv];rfl))];exact hh,r⟩
theorem jS{v:Value}{g k:Nat}(h:v.ownBlock=Value.ownBlock aN∨v.ownBlock=some g)(hk:v.ownBlock=some k):g=k:=by
 rcases h with h|h
 ·rw[h]at hk;cases hk
 ·rw[h]at hk;exact Option.some.inj hk
def ow(ts:List aI)(f dep:Nat)(v:V)(ats:List Nat):List jG×PV:=aW ts (aD ts f) dep ⟨v.named ts true,ats⟩
def Bt(ts:List aI)(f dep:Nat)(v:V)(ats:List Nat):List jG×PV:=aW ts (aD ts f) dep ⟨(ow ts f dep v ats).2.v.go1 ts,(ow ts f dep v ats).2.ats⟩
def xm(ts:List aI)(f dep:Nat)(v:V)(ats:List Nat):V:=if(ow ts f dep v ats).2.v.at ts [101,108,115,101]then(Bt ts f dep v ats).2.v else(ow ts f dep v ats).2.v
def Ao(ts:List aI)(f dep:Nat)(v:V)(ats:List Nat):List (List jG):=if(ow ts f dep v ats).2.v.at ts [101,108,115,101]then[(ow ts f dep v ats).1,(Bt ts f dep v ats).1]else[(ow ts f dep v ats).1]
theorem pj{ts:List aI}{f dep:Nat}{v:V}{ats:List Nat}(h:(ow ts f dep v ats).2.v.ok=false):xm ts f dep v ats=(ow ts f dep v ats).2.v:=by
 unfold xm Bt
 split
 ·rw[eu (pv:=⟨(ow ts f dep v ats).2.v.go1 ts,(ow ts f dep v ats).2.ats⟩) (by simpa only[V.go1_no h]using h)]
  exact V.go1_no h
 ·rfl
structure BR(w w2 w3 wX:World)(br bw bs:Nat)(s:ByteArray)(ts:List aI)(dep:Nat)(d:Hd)(t:aI)(B:List jG×PV)(p3:Option Addr)(c3:Nat)(pu:Option Addr)(cu:Nat)(bb:List Nat)(sr:Value):Prop where
 ok:B.2.v.ok=true
 st:an w3 bs (aK {eT d with kind:=13} sr aN)
 rv:RV w3 br bw s ts B.2.v dep
 kp:ae (eP br bw bs) w w3
 oa:w3.ownsRow w.heap.size 193 4 sr 1 (db [t])
 ob:w3.ownsRow w.heap.size 81 1 (.slice p3 1 c3) 1 [.slice pu bb.length cu]
 k3:ae (fun _=>False) w2 w3
 pb:∀k,Value.ownBlock (.slice p3 1 c3)=some k→w2.heap.size≤k
 wx:wX.heap.size≤w2.heap.size
 row:cA w2 (cV wX w2) 133 1 (.slice pu bb.length cu) bb.length (dW bb)
 rep:bB w2 (fun b=>cV wX w2 b∧Value.ownBlock (.slice pu bb.length cu)≠some b) bb (cP B.1)
 sx:∃g,sr=.slice (some ⟨g,0,none⟩) 1 1∧w.heap.size≤g∧g< wX.heap.size
theorem BR.one{w w2 w3 w1:World}{br bw bs:Nat}{s:ByteArray}{ts:List aI}{dep:Nat}{d:Hd}{t:aI}{B:List jG×PV}{p3:Option Addr}{c3:Nat}{pu:Option Addr}{cu:Nat}{bb:List Nat}{sr V1:Value}(h:BR w w2 w3 (((w1.setCell ⟨bs,12,none⟩ V1).alloc (eh t)).drew) br bw bs s ts dep d t B p3 c3 pu cu bb sr)(h1:bs≠br)(h2:bs≠bw)(hlb:bs< w.heap.size)(hz1:w.heap.size≤w1.heap.size):
  fI (w3.setCell ⟨bs,13,none⟩ (.slice p3 1 c3)) (Own w (w3.setCell ⟨bs,13,none⟩ (.slice p3 1 c3)) bs) bs (.mk {eT d with kind:=13} [rD t] ([B.1].map cP)):=by
 have hk5:ae (ao bs) w2 (w3.setCell ⟨bs,13,none⟩ (.slice p3 1 c3)):=(h.k3.mono (fun _ e=>e.elim)).set1 13 _
 have hz5:=hk5.size
 have h0:∀b,cV (((w1.setCell ⟨bs,12,none⟩ V1).alloc (eh t)).drew) w2 b→b< w2.heap.size∧¬ao bs b∧Own w (w3.setCell ⟨bs,13,none⟩ (.slice p3 1 c3)) bs b:=fun b hb=>by
  have h1:=hb.1
  have h2:=hb.2
  simp[World.setCell]at h1
  exact⟨h2,fun e=>by have:b=bs:=e;omega,Or.inr ⟨by omega,by omega⟩⟩
 have hoA:=aJ h.oa 13 (.slice p3 1 c3) hlb
 have hoB:=aJ h.ob 13 (.slice p3 1 c3) hlb
 obtain⟨g,rfl,hg0,hg1⟩:=h.sx
 have hq:∀b,cV (((w1.setCell ⟨bs,12,none⟩ V1).alloc (eh t)).drew) w2 b→Own w (w3.setCell ⟨bs,13,none⟩ (.slice p3 1 c3)) bs b∧b≠bs∧Value.ownBlock (.slice (some ⟨g,0,none⟩) 1 1)≠some b∧Value.ownBlock (.slice p3 1 c3)≠some b:=fun b hb=>
  ⟨(h0 b hb).2.2,(h0 b hb).2.1,fun e=>by have:=ff e;have:=hb.1;omega,fun e=>by have:=h.pb b e;have:=hb.2;omega⟩
 have hwx:=h.wx
 exact fI.mk (Or.inl rfl) (h.st.pblocks _) ⟨bz hoA (Nat.zero_le _),fun k hk=>Or.inr (hoA.lt k hk)⟩ ⟨bz hoB (Nat.zero_le _),fun k hk=>Or.inr (hoB.lt k hk)⟩
  (cD.cons (P:=cV (((w1.setCell ⟨bs,12,none⟩ V1).alloc (eh t)).drew) w2) (R:=fun _=>False) (h.row.keep hk5 (fun b hb=>⟨(h0 b hb).1,(h0 b hb).2.1,hb⟩)) (h.rep.keep hk5 (fun b hb=>⟨(h0 b hb.1).1,(h0 b hb.1).2.1,hb⟩)) cD.nil (fun i hi=>⟨hi.1,hi.2,fun e=>e⟩) (fun _ e=>e.elim))
  ⟨hq,fun e=>by have:=ff e;omega,fun e=>by have:=h.pb _ e;omega,fun i e1 e2=>by have:=ff e1;have:=h.pb _ e2;omega⟩
section
variable {w:World} {br bw bs:Nat} {s:ByteArray} {ts:List aI} {v:V} {dep:Nat}
theorem AZ{f:Nat}(hB:ja ts f)(h:RV w br bw s ts v dep)(hd6:dep≤6)(ats:List Nat)(hg:dT ⟨v,ats⟩)(hf:ts.length≤f+v.i)(d:Hd)(hd:ta d)(hx:d.x=⟨0,[],0,0⟩)(hS:an w bs (aK (eT d) aN aN))(h1:bs≠br)(h2:bs≠bw):
  Calls Tryz.prog 80 #[.pointer (some ⟨br,0,none⟩),.pointer (some ⟨bs,0,none⟩)] w fun r w'=>mV (eP br bw bs) w w' br bw s ts (aW ts (aD ts f) dep ⟨v.named ts true,ats⟩).2.v dep r (fun r w'=>r=.returned (.tuple #[])∧fI w' (Own w w' bs) bs (.mk {eT d with kind:=14} [rD (v.here ts)] [cP (aW ts (aD ts f) dep ⟨v.named ts true,ats⟩).1])):=by
 obtain⟨i0,hi,hz0,hz1',hz2⟩:=info_parts kl
 have HBK:=aa hB
 have hlb:=hS.lt
 have hbr:=h.rb.lt
 have hbw:=h.wb.lt
 have HNT:Hid (¬eZ br bw bs):=fun e=>by rcases e with e|e<;>contradiction
 have HTW:Hid (∀i,eZ br bw i→i< w.heap.size):=fun i e=>by rcases e with e|e<;>omega
 have HV0:=aa h
 have HS0:=aa hS
 have HG:=aa hg
 have HFU:=aa hf
 have HK0:=aa (ae.refl (eP br bw bs) w)
 have HD:=aa hd
 have c2:w.cell? ⟨bs,2,none⟩=some (.int .i64 0):=hS.cell 2
 have cf:=hS.fz
 clear h hS hd hB hx hg hf
 go_enter Tryz.func80,Tryz.ntmps80
 go_wp2_with fail
 refine(iO (HV0.out.setO bs 2 (.int .i64 14) h1 h2)).mono ?_
 rintro e w1 ⟨hk,hx⟩
 have HK1:Hid (ae (eP br bw bs) w w1):=(HK0.out.thrS 2 (.int .i64 14)).trans hk.thr2
 have HS1:=aa ((HS0.out.pkind 14 14 rfl).kept hk HNT.out)
 clear hk c2 cf
 rcases hx with⟨h3,h4,rfl⟩|⟨h3,b,rfl,h4⟩
 case inr=>
  have HO:Hid ((v.named ts true).ok=false∧an w1 b #[.int .i64 (v.named ts true).e,.int .i64 (v.named ts true).a]):=⟨h3,h4⟩
  clear h3 h4
  go_wp2_with fail
  have e:(aW ts (aD ts f) dep ⟨v.named ts true,ats⟩).2.v=v.named ts true:=eu (pv:=⟨v.named ts true,ats⟩) HO.out.1 f dep
  rw[e]
  exact⟨rfl,HK1.out,Or.inr ⟨HO.out.1,b,rfl,HO.out.2⟩⟩
 case inl=>
 have HV1:=aa h4
 clear h3 h4
 have HADV:=aa (cK.named (ts:=ts) true HV0.out.tk HV0.out.lt)
 have HG1:Hid (dT ⟨v.named ts true,ats⟩):=fun x=>by have:=HG.out HV0.out.ok;have:=(HADV.out.ok x).2;show ats.length≤(v.named ts true).i;simp only at *;omega
 have HF1:Hid (ts.length≤f+(v.named ts true).i):=by show _≤_;have:=(HADV.out.ok HV1.out.ok).2;have:=HFU.out;omega
 have hz1:=HK1.out.size
 have hl1:=HS1.out.lt
 have c12:w1.cell? ⟨bs,12,none⟩=some aN:=HS1.out.cell 12
 have c13:w1.cell? ⟨bs,13,none⟩=some aN:=HS1.out.cell 13
 have cf:=HS1.out.fz
 have HSA:=aa (((HS1.out.pright (.slice (some ⟨w1.heap.size,0,none⟩) 1 1)).alloc (eh (v.here ts))).below ((Below.refl _ _).drew))
 have HVA:=aa (((HV1.out.setO bs 12 (.slice (some ⟨w1.heap.size,0,none⟩) 1 1) h1 h2).below ((Below.refl _ _).alloc (Nat.le_refl _) (eh (v.here ts)))).below ((Below.refl _ _).drew))
 have HKA:=aa (((HK1.out.thrS 12 (.slice (some ⟨w1.heap.size,0,none⟩) 1 1)).alloc (eh (v.here ts))).drew)
 have HOA:Hid (((w1.setCell ⟨bs,12,none⟩ (.slice (some ⟨w1.heap.size,0,none⟩) 1 1)).alloc (eh (v.here ts))).drew.ownsRow w.heap.size 193 4 (.slice (some ⟨w1.heap.size,0,none⟩) 1 1) 1 (db [v.here ts])):=dR (gV w1.heap.size (by simp[World.setCell]) _ _ rfl rfl hz1)
 generalize hu:v.named ts true=u at *
 replace hu:=aa hu
 unfold ef
 go_wp2_with fail
 go_region_law (first|(refine en rfl ?_;go_wp2_with fail;refine(HBK.out _ br bw s ⟨u,ats⟩ dep HVA.out hd6 HG1.out HF1.out).mono ?_;rintro e w2 hO;cases hok2:(aW ts (aD ts f) dep ⟨u,ats⟩).2.v.ok;(focus(obtain⟨hk,b,rfl,hb⟩:=hO.bad hok2;replace hk:=aa hk;replace hb:=aa hb;replace hok2:=aa hok2;clear hO;go_wp2_with fail;rw[hu.out];exact⟨rfl,HKA.out.trans hk.out.thr2,Or.inr ⟨hok2.out,b,rfl,hb.out⟩⟩));(obtain⟨hk,hrv,ub,bb,rfl,hrow,hrep⟩:=hO.good hok2;have HOA2:=aa (aU HOA.out hk HTW.out);have HS2:=aa (HSA.out.kept hk HNT.out);have c13b:w2.cell? ⟨bs,13,none⟩=some aN:=HS2.out.cell 13;have cfb:=HS2.out.fz;have hbs2:=HS2.out.lt;have hz2w:=hk.size;have HK2:=aa (HKA.out.trans hk.thr2);obtain⟨pu,cu,rfl⟩:=ai hrow.1;replace hrv:=aa hrv;replace hrow:=aa hrow;replace hrep:=aa hrep;replace hok2:=aa hok2;clear hO hk))|(refine aA rfl (.tmp 17) (.tmp 20) 159 rfl w.heap.size 81 i0 aN 1 24 Tryz.underlying159 hi hz0 hz1' hz2 rfl (by decide) _ _ _ (by simp[Act.eval,Act.put]) (World.ownsRow_nil _ _ _ _) ⟨w2.heap.size,0,none⟩ 1 1 [.slice pu bb.length cu] (by simp[Act.eval,Act.put]) rfl (aF _ _ _ _ (by simp)) (by intro u hu;simp at hu;subst hu;rfl) (by decide) (by unfold maxLen;omega) (by omega) (by have:=HK2.out.size;simp;omega) ?_;intro l3 w3 hown3 hgrow3 hwh3;obtain⟨p3,c3,rfl⟩:=ai hown3;have HPB:Hid (∀k,Value.ownBlock (.slice p3 1 c3)=some k→w2.heap.size≤k):=(fun k hk=>by have h:=jS hwh3 hk;simp at h;omega);have hk3:=ae.grown ((ae.refl (fun _=>False) w2).alloc (.cells #[.slice pu bb.length cu] 81)) hgrow3 (fun k hk=>by simp[Value.ownBlock]at hk);have HS3:=aa (HS2.out.kept hk3 (fun e=>e));have HV3:=aa (hrv.out.kept hk3 (fun e=>e) (fun e=>e));have HK3:=aa (HK2.out.trans' hk3 (fun i e=>e.elim));have HOA3:=aa (aU HOA2.out hk3 (fun i e=>e.elim));have c13c:w3.cell? ⟨bs,13,none⟩=some aN:=HS3.out.cell 13;have cfc:=HS3.out.fz;replace hk3:=aa hk3;replace hown3:=aa hown3;clear hgrow3 hwh3))
 all_goals
  go_wp2_with fail
  first|go_end0|refine bodyPost_ret (results_none rfl _ _ _) rfl ?_
  rw[hu.out]
  have hk5:ae (ao bs) w2 (w3.setCell ⟨bs,13,none⟩ (.slice p3 1 c3)):=(hk3.out.mono (fun _ e=>e.elim)).set1 13 _
  have hz5:=hk5.size
  have hs5:(w3.setCell ⟨bs,13,none⟩ (.slice p3 1 c3)).heap.size=w3.heap.size:=by simp[World.setCell]
  have h0:∀b,cV (((w1.setCell ⟨bs,12,none⟩ (.slice (some ⟨w1.heap.size,0,none⟩) 1 1)).alloc (eh (v.here ts))).drew) w2 b→b< w2.heap.size∧¬ao bs b∧Own w (w3.setCell ⟨bs,13,none⟩ (.slice p3 1 c3)) bs b:=fun b hb=>by
   have h1:=hb.1
   have h2:=hb.2
   simp[World.setCell]at h1
   exact⟨h2,fun e=>by have:b=bs:=e;omega,Or.inr ⟨by omega,by omega⟩⟩
  have hoA:=aJ HOA3.out 13 (.slice p3 1 c3) hlb
  have hoB:=aJ hown3.out 13 (.slice p3 1 c3) hlb
  have hwx:=hz2w
  simp[World.setCell]at hwx
  have hq:∀b,cV (((w1.setCell ⟨bs,12,none⟩ (.slice (some ⟨w1.heap.size,0,none⟩) 1 1)).alloc (eh (v.here ts))).drew) w2 b→Own w (w3.setCell ⟨bs,13,none⟩ (.slice p3 1 c3)) bs b∧b≠bs∧Value.ownBlock (.slice (some ⟨w1.heap.size,0,none⟩) 1 1)≠some b∧Value.ownBlock (.slice p3 1 c3)≠some b:=fun b hb=>
   ⟨(h0 b hb).2.2,(h0 b hb).2.1,fun e=>by have:=ff e;have h9:=hb.1;simp[World.setCell]at h9;omega,fun e=>by have:=HPB.out b e;have:=hb.2;omega⟩
  exact⟨HK3.out.thrS 13 _,Or.inl ⟨hok2.out,HV3.out.setO bs 13 _ h1 h2,rfl,fI.mk (Or.inl rfl) (HS3.out.pblocks _) ⟨bz hoA (Nat.zero_le _),fun k hk=>Or.inr (hoA.lt k hk)⟩ ⟨bz hoB (Nat.zero_le _),fun k hk=>Or.inr (hoB.lt k hk)⟩ (cD.cons (P:=cV (((w1.setCell ⟨bs,12,none⟩ (.slice (some ⟨w1.heap.size,0,none⟩) 1 1)).alloc (eh (v.here ts))).drew) w2) (R:=fun _=>False) (hrow.out.keep hk5 (fun b hb=>⟨(h0 b hb).1,(h0 b hb).2.1,hb⟩)) (hrep.out.keep hk5 (fun b hb=>⟨(h0 b hb.1).1,(h0 b hb.1).2.1,hb⟩)) cD.nil (fun i hi=>⟨hi.1,hi.2,fun e=>e⟩) (fun _ e=>e.elim)) ⟨hq,fun e=>by have:=ff e;omega,fun e=>by have:=HPB.out _ e;omega,fun i e1 e2=>by have:=ff e1;have:=HPB.out _ e2;omega⟩⟩⟩
theorem xP{f:Nat}(hB:ja ts f)(h:RV w br bw s ts v dep)(hd6:dep≤6)(ats:List Nat)(hg:dT ⟨v,ats⟩)(hf:ts.length≤f+v.i)(d:Hd)(hd:ta d)(hx:d.x=⟨0,[],0,0⟩)(hS:an w bs (aK (eT d) aN aN))(h1:bs≠br)(h2:bs≠bw):
  Calls Tryz.prog 79 #[.pointer (some ⟨br,0,none⟩),.pointer (some ⟨bs,0,none⟩)] w fun r w'=>mV (eP br bw bs) w w' br bw s ts (xm ts f dep v ats) dep r (fun r w'=>r=.returned (.tuple #[])∧fI w' (Own w w' bs) bs (.mk {eT d with kind:=13} [rD (v.here ts)] ((Ao ts f dep v ats).map cP))):=by
 obtain⟨i0,hi,hz0,hz1',hz2⟩:=info_parts kl
 have HBK:=aa hB
 have hlb:=hS.lt
 have hbr:=h.rb.lt
 have hbw:=h.wb.lt
 have HNT:Hid (¬eZ br bw bs):=fun e=>by rcases e with e|e<;>contradiction
 have HTW:Hid (∀i,eZ br bw i→i< w.heap.size):=fun i e=>by rcases e with e|e<;>omega
 have HV0:=aa h
 have HS0:=aa hS
 have HG:=aa hg
 have HFU:=aa hf
 have HK0:=aa (ae.refl (eP br bw bs) w)
 have HD:=aa hd
 have c2:w.cell? ⟨bs,2,none⟩=some (.int .i64 0):=hS.cell 2
 have cf:=hS.fz
 clear h hS hd hB hx hg hf
 go_enter Tryz.func79,Tryz.ntmps79
 go_wp2_with fail
 refine(iO (HV0.out.setO bs 2 (.int .i64 13) h1 h2)).mono ?_
 rintro e w1 ⟨hk,hx⟩
 have HK1:Hid (ae (eP br bw bs) w w1):=(HK0.out.thrS 2 (.int .i64 13)).trans hk.thr2
 have HS1:=aa ((HS0.out.pkind 13 13 rfl).kept hk HNT.out)
 clear hk c2 cf
 rcases hx with⟨h3,h4,rfl⟩|⟨h3,b,rfl,h4⟩
 case inr=>
  have HO:Hid ((v.named ts true).ok=false∧an w1 b #[.int .i64 (v.named ts true).e,.int .i64 (v.named ts true).a]):=⟨h3,h4⟩
  clear h3 h4
  go_wp2_with fail
  have e:(aW ts (aD ts f) dep ⟨v.named ts true,ats⟩).2.v=v.named ts true:=eu (pv:=⟨v.named ts true,ats⟩) HO.out.1 f dep
  rw[pj (by unfold ow;rw[e];exact HO.out.1)];unfold ow;rw[e]
  exact⟨rfl,HK1.out,Or.inr ⟨HO.out.1,b,rfl,HO.out.2⟩⟩
 case inl=>
 have HV1:=aa h4
 clear h3 h4
 have HADV:=aa (cK.named (ts:=ts) true HV0.out.tk HV0.out.lt)
 have HG1:Hid (dT ⟨v.named ts true,ats⟩):=fun x=>by have:=HG.out HV0.out.ok;have:=(HADV.out.ok x).2;show ats.length≤(v.named ts true).i;simp only at *;omega
 have HF1:Hid (ts.length≤f+(v.named ts true).i):=by show _≤_;have:=(HADV.out.ok HV1.out.ok).2;have:=HFU.out;omega
 have hz1:=HK1.out.size
 have hl1:=HS1.out.lt
 have c12:w1.cell? ⟨bs,12,none⟩=some aN:=HS1.out.cell 12
 have c13:w1.cell? ⟨bs,13,none⟩=some aN:=HS1.out.cell 13
 have cf:=HS1.out.fz
 have HSA:=aa (((HS1.out.pright (.slice (some ⟨w1.heap.size,0,none⟩) 1 1)).alloc (eh (v.here ts))).below ((Below.refl _ _).drew))
 have HVA:=aa (((HV1.out.setO bs 12 (.slice (some ⟨w1.heap.size,0,none⟩) 1 1) h1 h2).below ((Below.refl _ _).alloc (Nat.le_refl _) (eh (v.here ts)))).below ((Below.refl _ _).drew))
 have HKA:=aa (((HK1.out.thrS 12 (.slice (some ⟨w1.heap.size,0,none⟩) 1 1)).alloc (eh (v.here ts))).drew)
 have HOA:Hid (((w1.setCell ⟨bs,12,none⟩ (.slice (some ⟨w1.heap.size,0,none⟩) 1 1)).alloc (eh (v.here ts))).drew.ownsRow w.heap.size 193 4 (.slice (some ⟨w1.heap.size,0,none⟩) 1 1) 1 (db [v.here ts])):=dR (gV w1.heap.size (by simp[World.setCell]) _ _ rfl rfl hz1)
 generalize hu:v.named ts true=u at *
 replace hu:=aa hu
 unfold ef
 go_upto_region 2 with fail
 go_cut []from 5 (fun wx=>∃w2 w3 p3 c3 pu cu bb,wx=w3.setCell ⟨bs,13,none⟩ (.slice p3 1 c3)∧Hid (BR w w2 w3 (((w1.setCell ⟨bs,12,none⟩ (.slice (some ⟨w1.heap.size,0,none⟩) 1 1)).alloc (eh (v.here ts))).drew) br bw bs s ts dep d (v.here ts) (aW ts (aD ts f) dep ⟨u,ats⟩) p3 c3 pu cu bb (.slice (some ⟨w1.heap.size,0,none⟩) 1 1)))
 case first=>
  go_region_law (first|(refine en rfl ?_;go_wp2_with fail;refine(HBK.out _ br bw s ⟨u,ats⟩ dep HVA.out hd6 HG1.out HF1.out).mono ?_;rintro e w2 hO;cases hok2:(aW ts (aD ts f) dep ⟨u,ats⟩).2.v.ok;(focus(obtain⟨hk,b,rfl,hb⟩:=hO.bad hok2;replace hk:=aa hk;replace hb:=aa hb;replace hok2:=aa hok2;clear hO;go_wp2_with fail;rw[pj (by unfold ow;rw[hu.out];exact hok2.out)];unfold ow;rw[hu.out];exact⟨rfl,HKA.out.trans hk.out.thr2,Or.inr ⟨hok2.out,b,rfl,hb.out⟩⟩));(obtain⟨hk,hrv,ub,bb,rfl,hrow,hrep⟩:=hO.good hok2;have HOA2:=aa (aU HOA.out hk HTW.out);have HS2:=aa (HSA.out.kept hk HNT.out);have c13b:w2.cell? ⟨bs,13,none⟩=some aN:=HS2.out.cell 13;have cfb:=HS2.out.fz;have hbs2:=HS2.out.lt;have hz2w:=hk.size;have HK2:=aa (HKA.out.trans hk.thr2);obtain⟨pu,cu,rfl⟩:=ai hrow.1;replace hrv:=aa hrv;replace hrow:=aa hrow;replace hrep:=aa hrep;replace hok2:=aa hok2;clear hO hk))|(refine aA rfl (.tmp 17) (.tmp 20) 159 rfl w.heap.size 81 i0 aN 1 24 Tryz.underlying159 hi hz0 hz1' hz2 rfl (by decide) _ _ _ (by simp[Act.eval,Act.put]) (World.ownsRow_nil _ _ _ _) ⟨w2.heap.size,0,none⟩ 1 1 [.slice pu bb.length cu] (by simp[Act.eval,Act.put]) rfl (aF _ _ _ _ (by simp)) (by intro u hu;simp at hu;subst hu;rfl) (by decide) (by unfold maxLen;omega) (by omega) (by have:=HK2.out.size;simp;omega) ?_;intro l3 w3 hown3 hgrow3 hwh3;obtain⟨p3,c3,rfl⟩:=ai hown3;have HPB:Hid (∀k,Value.ownBlock (.slice p3 1 c3)=some k→w2.heap.size≤k):=(fun k hk=>by have h:=jS hwh3 hk;simp at h;omega);have hk3:=ae.grown ((ae.refl (fun _=>False) w2).alloc (.cells #[.slice pu bb.length cu] 81)) hgrow3 (fun k hk=>by simp[Value.ownBlock]at hk);have HS3:=aa (HS2.out.kept hk3 (fun e=>e));have HV3:=aa (hrv.out.kept hk3 (fun e=>e) (fun e=>e));have HK3:=aa (HK2.out.trans' hk3 (fun i e=>e.elim));have HOA3:=aa (aU HOA2.out hk3 (fun i e=>e.elim));have c13c:w3.cell? ⟨bs,13,none⟩=some aN:=HS3.out.cell 13;have cfc:=HS3.out.fz;replace hk3:=aa hk3;replace hown3:=aa hown3;clear hgrow3 hwh3))
  all_goals
  go_wp2_with fail
  go_meet
  exact⟨w2,w3,p3,c3,pu,cu,bb,rfl,hok2.out,HS3.out,HV3.out,HK3.out,HOA3.out,hown3.out,hk3.out,HPB.out,hz2w,hrow.out,hrep.out,w1.heap.size,rfl,hz1,by simp[World.setCell]⟩
 case rest=>
 obtain⟨w2,w3,p3,c3,pu,cu,bb,hwc,HBR⟩:=hcut
 clear c12 c13 cf HSA HVA HKA HOA
 have HB:Hid (ow ts f dep v ats=aW ts (aD ts f) dep ⟨u,ats⟩):=by show _=_;unfold ow;rw[hu.out]
 have HSO:=aa (eQ.block HV0.out.tk (eQ.stmts HV0.out.tk f) dep ⟨u,ats⟩ HG1.out HV1.out.lt)
 have HLT:Hid ((aW ts (aD ts f) dep ⟨u,ats⟩).2.v.i< ts.length):=HBR.out.rv.lt
 generalize hBB:aW ts (aD ts f) dep ⟨u,ats⟩=BB at *
 replace hBB:=aa hBB
 subst hwc
 have HV4:=aa (HBR.out.rv.setO bs 13 (.slice p3 1 c3) h1 h2)
 have hl3:=HBR.out.st.lt
 cases hel:BB.2.v.at ts [101,108,115,101]
 ·have HEL:=aa hel
  clear hel
  have HFV:Hid (xm ts f dep v ats=BB.2.v∧Ao ts f dep v ats=[BB.1]):=by show _∧_;unfold xm Ao;rw[HB.out,HEL.out];exact⟨rfl,rfl⟩
  go_wp2_with fail
  refine(bU HV4.out ⟨#[101,108,115,101]⟩ HEL.out).mono ?_
  rintro e wq ⟨rfl,hq⟩
  subst wq
  go_wp2_with fail
  first|go_end0|refine bodyPost_ret (results_none rfl _ _ _) rfl ?_
  rw[HFV.out.1,HFV.out.2]
  exact⟨HBR.out.kp.thrS 13 _,Or.inl ⟨HBR.out.ok,HV4.out,rfl,HBR.out.one h1 h2 hlb hz1⟩⟩
 ·have HEL:=aa hel
  clear hel
  have HFV:Hid (xm ts f dep v ats=(aW ts (aD ts f) dep ⟨BB.2.v.go1 ts,BB.2.ats⟩).2.v∧Ao ts f dep v ats=[BB.1,(aW ts (aD ts f) dep ⟨BB.2.v.go1 ts,BB.2.ats⟩).1]):=by show _∧_;unfold xm Ao Bt;rw[HB.out,HEL.out];exact⟨rfl,rfl⟩
  have HS4:=aa (HBR.out.st.pblocks (.slice p3 1 c3))
  have HOA4:=aa (aJ HBR.out.oa 13 (.slice p3 1 c3) hlb)
  have HOB4:=aa (aJ HBR.out.ob 13 (.slice p3 1 c3) hlb)
  have HK4:=aa (HBR.out.kp.thrS 13 (.slice p3 1 c3))
  have HKR4:Hid (ae (fun k=>eP br bw bs k∨Value.ownBlock (.slice p3 1 c3)=some k) w2 (w3.setCell ⟨bs,13,none⟩ (.slice p3 1 c3))):=(HBR.out.k3.mono (fun _ e=>e.elim)).setCell (p:=⟨bs,13,none⟩) (Or.inl (Or.inl (Or.inr rfl))) _
  have HPB:=aa HBR.out.pb
  have HROW:=aa HBR.out.row
  have HWX:=aa HBR.out.wx
  have HREP:=aa HBR.out.rep
  have HOKB:=aa HBR.out.ok
  clear HBR
  generalize hw4:w3.setCell ⟨bs,13,none⟩ (.slice p3 1 c3)=w4 at *
  clear hw4 hl3
  go_wp2_with fail
  refine(aZ HV4.out ⟨#[101,108,115,101]⟩ HEL.out).mono ?_
  rintro e w5 ⟨hk,hx⟩
  have HK5:=aa (HK4.out.trans hk.thr2)
  have HS5:=aa (HS4.out.kept hk HNT.out)
  have HOA5:=aa (aU HOA4.out hk HTW.out)
  have HOB5:=aa (aU HOB4.out hk HTW.out)
  have HKR5:=aa (HKR4.out.trans (hk.mono (fun _ e=>Or.inl (Or.inl e))))
  clear hk
  rcases hx with⟨h3,h4,rfl⟩|⟨h3,b,rfl,h4⟩
  case inr=>
   have HO:Hid ((BB.2.v.go1 ts).ok=false∧an w5 b #[.int .i64 (BB.2.v.go1 ts).e,.int .i64 (BB.2.v.go1 ts).a]):=⟨h3,h4⟩
   clear h3 h4
   go_wp2_with fail
   rw[HFV.out.1,eu (pv:=⟨BB.2.v.go1 ts,BB.2.ats⟩) HO.out.1]
   exact⟨rfl,HK5.out,Or.inr ⟨HO.out.1,b,rfl,HO.out.2⟩⟩
  case inl=>
  have HV5:=aa h4
  clear h3 h4
  have hgo:=V.go1_le ts BB.2.v
  have HG5:Hid (dT ⟨BB.2.v.go1 ts,BB.2.ats⟩):=fun _=>by have:=HSO.out.1 HOKB.out;show BB.2.ats.length≤(BB.2.v.go1 ts).i;omega
  have HF5:Hid (ts.length≤f+(BB.2.v.go1 ts).i):=by show _≤_;have h8:u.i+1≤BB.2.v.i:=(HSO.out.2.ok HOKB.out).2;have h9:=HF1.out;omega
  generalize hv5:BB.2.v.go1 ts=v5 at *
  clear hv5 hgo
  have c13:w5.cell? ⟨bs,13,none⟩=some (.slice p3 1 c3):=HS5.out.cell 13
  have cf:=HS5.out.fz
  have HVA:=aa (HV5.out.below ((Below.refl _ _).drew))
  have HSA:=aa (HS5.out.below ((Below.refl _ _).drew))
  have HKA:=aa (HK5.out.drew)
  have HOA:=aa (dR HOA5.out)
  have HOB:=aa (dR HOB5.out)
  have HKRA:=aa (HKR5.out.drew)
  have hz5:=HK5.out.size
  generalize hCC:aW ts (aD ts f) dep ⟨v5,BB.2.ats⟩=CC at *
  replace hCC:=aa hCC
  go_wp2_with fail
  go_region_law (first|(refine en rfl ?_;go_wp2_with fail;refine(HBK.out _ br bw s ⟨v5,BB.2.ats⟩ dep HVA.out hd6 HG5.out HF5.out).mono ?_;rw[hCC.out];rintro e w6 hO;cases hok6:CC.2.v.ok;(focus(obtain⟨hk,b,rfl,hb⟩:=hO.bad hok6;replace hk:=aa hk;replace hb:=aa hb;replace hok6:=aa hok6;clear hO;go_wp2_with fail;rw[HFV.out.1];exact⟨rfl,HKA.out.trans hk.out.thr2,Or.inr ⟨hok6.out,b,rfl,hb.out⟩⟩));(obtain⟨hk,hrv,ub,bb6,rfl,hrow,hrep⟩:=hO.good hok6;have HOA6:=aa (aU HOA.out hk HTW.out);have HOB6:=aa (aU HOB.out hk HTW.out);have HS6:=aa (HSA.out.kept hk HNT.out);have c13b:w6.cell? ⟨bs,13,none⟩=some (.slice p3 1 c3):=HS6.out.cell 13;have cfb:=HS6.out.fz;have hbs6:=HS6.out.lt;have hz6:=hk.size;have HK6:=aa (HKA.out.trans hk.thr2);have HKR6:=aa (HKRA.out.trans (hk.mono (fun _ e=>Or.inl (Or.inl e))));obtain⟨pu6,cu6,rfl⟩:=ai hrow.1;replace hrv:=aa hrv;replace hrow:=aa hrow;replace hrep:=aa hrep;replace hok6:=aa hok6;clear hO hk))|(refine aA rfl (.tmp 30) (.tmp 33) 159 rfl w.heap.size 81 i0 aN 1 24 Tryz.underlying159 hi hz0 hz1' hz2 rfl (by decide) _ _ _ (by simp[Act.eval,Act.put]) (HOB6.out.alloc _) ⟨w6.heap.size,0,none⟩ 1 1 [.slice pu6 bb6.length cu6] (by simp[Act.eval,Act.put]) rfl (aF _ _ _ _ (by simp)) (by intro u hu;simp at hu;subst hu;rfl) (by decide) (by unfold maxLen;omega) (by omega) (by have:=HK6.out.size;simp;omega) ?_;intro l7 w7 hown7 hgrow7 hwh7;obtain⟨p7,c7,rfl⟩:=ai hown7;have HP7:Hid (∀k,Value.ownBlock (.slice p7 2 c7)=some k→Value.ownBlock (.slice p3 1 c3)=some k∨w6.heap.size≤k):=(fun k hk=>by rcases hwh7 with h|h;(rw[h]at hk;exact Or.inl hk);(rw[h]at hk;simp at hk;exact Or.inr (by omega)));have hk7:=ae.grown ((ae.refl (fun k=>Value.ownBlock (.slice p3 1 c3)=some k) w6).alloc (.cells #[.slice pu6 bb6.length cu6] 81)) hgrow7 (fun k hk=>Or.inl hk);have HNS:Hid (∀k,Value.ownBlock (.slice p3 1 c3)=some k→w.heap.size≤k∧k< w5.heap.size):=(fun k hk=>HOB.out.lt k hk);have HS7:=aa (HS6.out.kept hk7 (fun e=>by have:=(HNS.out _ e).1;omega));have HV7:=aa (hrv.out.kept hk7 (fun e=>by have:=(HNS.out _ e).1;omega) (fun e=>by have:=(HNS.out _ e).1;omega));have HK7:=aa (HK6.out.trans' hk7 (fun i e=>Or.inr (HNS.out i e).1));have c13c:w7.cell? ⟨bs,13,none⟩=some (.slice p3 1 c3):=HS7.out.cell 13;have cfc:=HS7.out.fz;replace hk7:=aa hk7;replace hown7:=aa hown7;clear hgrow7 hwh7))
  all_goals
   go_wp2_with fail
   first|go_end0|refine bodyPost_ret (results_none rfl _ _ _) rfl ?_
   rw[HFV.out.1,HFV.out.2]
   have hoA7:w7.ownsRow w.heap.size 193 4 (.slice (some ⟨w1.heap.size,0,none⟩) 1 1) 1 (db [v.here ts]):=by
    refine aL HOA6.out hk7.out (fun k hk e=>?_)
    have h8:=ff hk
    have h9:=HPB.out k e
    have h10:=HWX.out
    simp[World.setCell]at h10
    omega
   have hk8:ae (fun k=>eP br bw bs k∨Value.ownBlock (.slice p3 1 c3)=some k) w2 (w7.setCell ⟨bs,13,none⟩ (.slice p7 2 c7)):=(HKR6.out.trans (hk7.out.mono (fun _ e=>Or.inr e))).setCell (p:=⟨bs,13,none⟩) (Or.inl (Or.inl (Or.inr rfl))) _
   have hk9:ae (fun k=>k=bs∨Value.ownBlock (.slice p3 1 c3)=some k) w6 (w7.setCell ⟨bs,13,none⟩ (.slice p7 2 c7)):=(ae.mono (T:=fun k=>k=bs∨Value.ownBlock (.slice p3 1 c3)=some k) hk7.out (fun _ e=>Or.inr e)).setCell (p:=⟨bs,13,none⟩) (Or.inl (Or.inl rfl)) _
   have hz8:=hk8.size
   have hz9:=hk9.size
   have h0:∀b,cV (((w1.setCell ⟨bs,12,none⟩ (.slice (some ⟨w1.heap.size,0,none⟩) 1 1)).alloc (eh (v.here ts))).drew) w2 b→b< w2.heap.size∧¬(eP br bw bs b∨Value.ownBlock (.slice p3 1 c3)=some b)∧Own w (w7.setCell ⟨bs,13,none⟩ (.slice p7 2 c7)) bs b:=fun b hb=>by
    have h1:=hb.1
    have h2:=hb.2
    simp[World.setCell]at h1
    refine⟨h2,fun e=>?_,Or.inr ⟨by omega,by omega⟩⟩
    rcases e with(e|e)|e
    ·have:=HTW.out b e;omega
    ·omega
    ·have:=HPB.out b e;omega
   have h0':∀b,cV w5.drew w6 b→b< w6.heap.size∧¬(b=bs∨Value.ownBlock (.slice p3 1 c3)=some b)∧Own w (w7.setCell ⟨bs,13,none⟩ (.slice p7 2 c7)) bs b:=fun b hb=>by
    have h1:w5.heap.size≤b:=hb.1
    have h2:=hb.2
    refine⟨h2,fun e=>?_,Or.inr ⟨by omega,by omega⟩⟩
    rcases e with e|e
    ·omega
    ·have:=(HNS.out b e).2;omega
   have hoA:=aJ hoA7 13 (.slice p7 2 c7) hlb
   have hoB:=aJ hown7.out 13 (.slice p7 2 c7) hlb
   have hwx:=HWX.out
   simp[World.setCell]at hwx
   have hz25:w2.heap.size≤w5.heap.size:=HKR5.out.size
   have hz56:w5.heap.size≤w6.heap.size:=hz6
   have hdj:∀i,cV (((w1.setCell ⟨bs,12,none⟩ (.slice (some ⟨w1.heap.size,0,none⟩) 1 1)).alloc (eh (v.here ts))).drew) w2 i→¬cV w5.drew w6 i:=fun i a b=>by have:=a.2;have h9:w5.heap.size≤i:=b.1;omega
   have hq:∀b,(cV (((w1.setCell ⟨bs,12,none⟩ (.slice (some ⟨w1.heap.size,0,none⟩) 1 1)).alloc (eh (v.here ts))).drew) w2 b∨cV w5.drew w6 b)→Own w (w7.setCell ⟨bs,13,none⟩ (.slice p7 2 c7)) bs b∧b≠bs∧Value.ownBlock (.slice (some ⟨w1.heap.size,0,none⟩) 1 1)≠some b∧Value.ownBlock (.slice p7 2 c7)≠some b:=fun b hb=>by
    rcases hb with hb|hb
    ·have h9:=hb.1
     simp[World.setCell]at h9
     have h8:=hb.2
     exact⟨(h0 b hb).2.2,fun e=>by omega,fun e=>by have:=ff e;omega,fun e=>by rcases HP7.out _ e with e|e;(have:=HPB.out b e;omega);omega⟩
    ·have h9:w5.heap.size≤b:=hb.1
     have h8:=hb.2
     exact⟨(h0' b hb).2.2,fun e=>by omega,fun e=>by have:=ff e;omega,fun e=>by rcases HP7.out _ e with e|e;(have:=(HNS.out b e).2;omega);omega⟩
   exact⟨HK7.out.thrS 13 _,Or.inl ⟨hok6.out,HV7.out.setO bs 13 _ h1 h2,rfl,fI.mk (Or.inl rfl) (HS7.out.pblocks _) ⟨bz hoA (Nat.zero_le _),fun k hk=>Or.inr (hoA.lt k hk)⟩ ⟨bz hoB (Nat.zero_le _),fun k hk=>Or.inr (hoB.lt k hk)⟩ (cD.cons (P:=fun b=>cV (((w1.setCell ⟨bs,12,none⟩ (.slice (some ⟨w1.heap.size,0,none⟩) 1 1)).alloc (eh (v.here ts))).drew) w2 b∨cV w5.drew w6 b) (R:=cV w5.drew w6) (HROW.out.keep hk8 (fun b hb=>⟨(h0 b hb).1,(h0 b hb).2.1,Or.inl hb⟩)) (HREP.out.keep hk8 (fun b hb=>⟨(h0 b hb.1).1,(h0 b hb.1).2.1,hb⟩)) (cD.cons (P:=cV w5.drew w6) (R:=fun _=>False) (hrow.out.keep hk9 (fun b hb=>⟨(h0' b hb).1,(h0' b hb).2.1,hb⟩)) (hrep.out.keep hk9 (fun b hb=>⟨(h0' b hb.1).1,(h0' b hb.1).2.1,hb⟩)) cD.nil (fun i hi=>⟨hi.1,hi.2,fun e=>e⟩) (fun _ e=>e.elim)) (fun i hi=>⟨Or.inl hi.1,hi.2,fun e=>hdj i hi.1 e⟩) (fun i hi=>⟨Or.inr hi,fun e=>hdj i (HROW.out.2 i e) hi⟩)) ⟨hq,fun e=>by have:=ff e;omega,fun e=>by rcases HP7.out _ e with e|e;(have:=HPB.out _ e;omega);omega,fun i e1 e2=>by have:=ff e1;rcases HP7.out _ e2 with e|e;(have:=HPB.out _ e;omega);omega⟩⟩⟩
end
end
section
set_option maxRecDepth 100000
set_option maxHeartbeats 4000000
open Go.RowKit
theorem uM{α:Type}{h:Hd}{b e:List α}(h13:h.op≠13)(h14:h.op≠14):uN h b e=[]:=by
 unfold uN;simp[h13,h14]
theorem vF{ts:List aI}{d:Hd}{v:V}(h:d.op=0):(cH ts d v).1.op≠13∧(cH ts d v).1.op≠14:=by
 have hs:∀(d:Hd) (v:V),d.op=0∨d.op=1→(Hd.sum ts d v).1.op=d.op:=fun d v _=>(rE ts d v).1
 have hr:∀(d:Hd) (v:V),(Hd.right ts d v).1.op≠13∧(Hd.right ts d v).1.op≠14:=fun d v=>by
  unfold Hd.right
  repeat' split
  all_goals(first|(simp;done)|skip)
  all_goals(rw[(rE ts _ _).1];simp)
 have hsm:∀(d:Hd) (v:V),(Hd.simple ts d v).1.op≠13∧(Hd.simple ts d v).1.op≠14:=fun d v=>by
  unfold Hd.simple
  repeat' split
  all_goals(first|(simp;done)|exact hr _ _)
 unfold cH
 repeat' split
 all_goals(first|(simp;done)|exact hsm _ _)
theorem uI{ts:List aI}{f d:Nat}{pv:PV}(h:(pv.v.here ts).text=[105,102]):
  (dH ts (aD ts f) d pv).2.v=xm ts f (d+1) (pv.v.go1 ts) (eE pv ts)∧js (dH ts (aD ts f) d pv).1=.mk {eT (kR pv ts)with kind:=13} [rD ((pv.v.go1 ts).here ts)] ((Ao ts f (d+1) (pv.v.go1 ts) (eE pv ts)).map cP):=by
 rw[jL (Or.inl h)]
 have hw:¬(pv.v.here ts).text=[119,104,105,108,101]:=by rw[h];decide
 have hB:dL ts (aD ts f) d ⟨pv.v,eE pv ts⟩=ow ts f (d+1) (pv.v.go1 ts) (eE pv ts):=rfl
 have hE:kh ts (aD ts f) d ⟨pv.v,eE pv ts⟩=Bt ts f (d+1) (pv.v.go1 ts) (eE pv ts):=rfl
 unfold iy
 rw[if_neg hw,hB,hE]
 unfold xm Ao
 split
 ·refine⟨rfl,?_⟩
  rw[js]
  simp[em,eT,kR,oW,eC,bD,lS,uN,cP]
 ·refine⟨rfl,?_⟩
  rw[js]
  simp[em,eT,kR,oW,eC,bD,lS,uN,cP]
theorem pi{ts:List aI}{f d:Nat}{pv:PV}(h:(pv.v.here ts).text=[119,104,105,108,101]):
  (dH ts (aD ts f) d pv).2.v=(aW ts (aD ts f) (d+1) ⟨(pv.v.go1 ts).named ts true,eE pv ts⟩).2.v∧js (dH ts (aD ts f) d pv).1=.mk {eT (kR pv ts)with kind:=14} [rD ((pv.v.go1 ts).here ts)] [cP (aW ts (aD ts f) (d+1) ⟨(pv.v.go1 ts).named ts true,eE pv ts⟩).1]:=by
 rw[jL (Or.inr h)]
 unfold iy
 rw[if_pos h]
 refine⟨rfl,?_⟩
 rw[js]
 simp[em,eT,kR,oW,eC,bD,lS,uN,dL]
theorem AX{ts:List aI}{f:Nat}(hB:ja ts f):tF ts f:=by
 intro w br bw s pv d h hd5 hg hf
 have HBK:=aa hB
 have HV:=aa h
 have hbr:=h.rb.lt
 have hbw:=h.wb.lt
 have HT:=aa h.tk
 have c3:=h.rb.cell 3
 have c3':w.cell? ⟨br,1+2,none⟩=some (.int .i64 (pv.v.here ts).at_):=h.rb.cell 3
 have HTA:Hid (∀u,u∈fY→pv.v.at ts u=decide ((pv.v.here ts).text=u)):=fun u hu=>h.text_at u hu
 have HG:=aa hg
 have h1:w.heap.size≠br:=by omega
 have h2:w.heap.size≠bw:=by omega
 have HNT:Hid (¬eZ br bw w.heap.size):=fun e=>by rcases e with e|e<;>contradiction
 obtain⟨wA,hwA⟩:∃x,x=w.alloc (.cells (aK (eT (kR pv ts)) aN aN) 161):=⟨_,rfl⟩
 have HVA:Hid (RV wA br bw s ts pv.v (d+1)):=by show RV _ _ _ _ _ _ _;rw[hwA];exact h.below ((Below.refl _ _).alloc (Nat.le_refl _) _)
 have HSA:Hid (an wA w.heap.size (aK (eT (kR pv ts)) aN aN)):=by show an _ _ _;rw[hwA];exact an.new _ _ _
 have HKA:Hid (ae (eZ br bw) w wA):=by show ae _ _ _;rw[hwA];exact(ae.refl _ _).alloc _
 have HZA:Hid (wA.heap.size=w.heap.size+1):=by show _=_;rw[hwA];simp
 have HKT:Hid (∀w',ae (eP br bw w.heap.size) wA w'→ae (eZ br bw) w w'):=fun w' k=>HKA.out.trans' k (fun i e=>by rcases e with e|e;exact Or.inl e;exact Or.inr (by omega))
 have HOWN:Hid (∀w' b,Own wA w' w.heap.size b→w.heap.size< w'.heap.size→cV w w' b):=fun w' b hb hl=>by have:=HZA.out;rcases hb with e|e;exact⟨by omega,by omega⟩;exact⟨by omega,e.2⟩
 replace hwA:=aa hwA
 clear hB h hg
 go_enter Tryz.func59,Tryz.ntmps59
 go_wp2_with fail
 show Calls _ _ _ (w.alloc (.cells (aK (eT (kR pv ts)) aN aN) 161)) _
 rw[←hwA.out]
 clear hwA c3 c3'
 by_cases eif:(pv.v.here ts).text=[105,102]
 ·have HE:=aa eif
  have hat:pv.v.at ts [105,102]=true:=by rw[HTA.out _ (by decide)];exact decide_eq_true eif
  clear eif
  have HCH:=aa (uI (ts:=ts) (f:=f) (d:=d) (pv:=pv) HE.out)
  have HOP:=aa (V.at_open hat)
  have HAT:=aa hat
  clear hat
  have HADV:=aa (cK.go1 HT.out HV.out.lt HOP.out)
  refine(aZ HVA.out ⟨#[105,102]⟩ HAT.out).mono ?_
  rintro e w1 ⟨hk,hx⟩
  have HK1:Hid (ae (eP br bw w.heap.size) wA w1):=hk.thr2
  have HS1:=aa (HSA.out.kept hk HNT.out)
  clear hk
  rcases hx with⟨h3,h4,rfl⟩|⟨h3,b,rfl,h4⟩
  case inr=>
   have HO:Hid ((pv.v.go1 ts).ok=false∧an w1 b #[.int .i64 (pv.v.go1 ts).e,.int .i64 (pv.v.go1 ts).a]):=⟨h3,h4⟩
   clear h3 h4
   go_wp2_with fail
   have e:xm ts f (d+1) (pv.v.go1 ts) (eE pv ts)=pv.v.go1 ts:=by
    have e0:(ow ts f (d+1) (pv.v.go1 ts) (eE pv ts)).2.v=pv.v.go1 ts:=by unfold ow;rw[eu (pv:=⟨(pv.v.go1 ts).named ts true,eE pv ts⟩) (by simpa only[V.named_no HO.out.1]using HO.out.1)];exact V.named_no HO.out.1 _
    rw[pj (by rw[e0];exact HO.out.1),e0]
   rw[HCH.out.1,e]
   exact⟨rfl,HKT.out _ HK1.out,Or.inr ⟨HO.out.1,b,rfl,HO.out.2⟩⟩
  case inl=>
  have HV1:=aa h4
  clear h3 h4
  have HG1:Hid (dT ⟨pv.v.go1 ts,eE pv ts⟩):=fun x=>by have:=HG.out HV.out.ok;have:=(HADV.out.ok x).2;show(eE pv ts).length≤(pv.v.go1 ts).i;simp[eE];omega
  have HF1:Hid (ts.length≤f+(pv.v.go1 ts).i):=by show _≤_;have:=(HADV.out.ok HV1.out.ok).2;omega
  go_wp2_with fail
  refine(xP HBK.out HV1.out (by omega) (eE pv ts) HG1.out HF1.out (kR pv ts) ⟨rfl,rfl,rfl⟩ rfl HS1.out h1 h2).mono ?_
  rintro e w2 ⟨hk,hx⟩
  have HK2:=aa (HK1.out.trans hk)
  have hz2:=hk.size
  have hz1:=HK1.out.size
  clear hk
  rcases hx with⟨h3,h4,rfl,h5⟩|⟨h3,b,rfl,h4⟩
  ·have HX:=aa (And.intro h3 (And.intro h4 h5))
   clear h3 h4 h5
   go_wp2_with fail
   go_ret
   rw[HCH.out.1,HCH.out.2]
   refine⟨HKT.out _ HK2.out,Or.inl ⟨HX.out.1,HX.out.2.1,w.heap.size,rfl,?_⟩⟩
   have hza:=HZA.out
   exact HX.out.2.2.keep (ae.refl (fun _=>False) _) (fun b hb=>⟨by rcases hb with e|e;omega;exact e.2,fun e=>e,HOWN.out w2 b (by rcases hb with e|e;exact Or.inl e;exact Or.inr ⟨by omega,e.2⟩) (by omega)⟩)
  ·have HO:=aa (And.intro h3 h4)
   clear h3 h4
   go_wp2_with fail
   rw[HCH.out.1]
   exact⟨rfl,HKT.out _ HK2.out,Or.inr ⟨HO.out.1,b,rfl,HO.out.2⟩⟩
 ·have NIF:=aa eif
  have NAIF:Hid (pv.v.at ts [105,102]=false):=by show _=_;rw[HTA.out _ (by decide)];exact decide_eq_false eif
  clear eif
  refine(bU HVA.out ⟨#[105,102]⟩ NAIF.out).mono ?_
  rintro e wq ⟨rfl,hq⟩
  subst wq
  go_wp2_with fail
  by_cases ewh:(pv.v.here ts).text=[119,104,105,108,101]
  case neg=>
   have NWH:=aa ewh
   have NAWH:Hid (pv.v.at ts [119,104,105,108,101]=false):=by show _=_;rw[HTA.out _ (by decide)];exact decide_eq_false ewh
   clear ewh
   have HPL:=aa (pN (body:=aD ts f) (d:=d) NIF.out NWH.out)
   have HOPS:=aa (vF (ts:=ts) (d:=kR pv ts) (v:=pv.v) rfl)
   refine(bU HVA.out ⟨#[119,104,105,108,101]⟩ NAWH.out).mono ?_
   rintro e wq ⟨rfl,hq⟩
   subst wq
   go_wp2_with fail
   refine(xM HVA.out (kR pv ts) ⟨rfl,rfl,rfl⟩ rfl rfl HSA.out h1 h2).mono ?_
   rintro e w1 ⟨hk,hx⟩
   have HK1:=aa hk
   clear hk
   rcases hx with⟨h3,h4,rfl,sr,h5,h6⟩|⟨h3,b,rfl,h4⟩
   case inr=>
    have HO:=aa (And.intro h3 h4)
    clear h3 h4
    go_wp2_with fail
    rw[HPL.out]
    simp only[V.must_no HO.out.1]
    exact⟨rfl,HKT.out _ HK1.out,Or.inr ⟨HO.out.1,b,rfl,HO.out.2⟩⟩
   case inl=>
   have HV1:=aa h4
   have HS1:=aa h5
   have HO1:=aa h6
   clear h3 h4 h5 h6
   generalize hpr:cH ts (kR pv ts) pv.v=PR at *
   clear hpr
   go_wp2_with fail
   refine(fk HV1.out ⟨#[59]⟩).mono ?_
   rintro e w2 ⟨hk,hx⟩
   have HK2:=aa (HK1.out.trans hk.thr2)
   have HS2:=aa (HS1.out.kept hk HNT.out)
   have HO2:=aa (aU HO1.out hk (fun i e=>by have:=HZA.out;rcases e with e|e<;>omega))
   have hz2:=HS2.out.lt
   clear hk
   rcases hx with⟨h3,h4,rfl⟩|⟨h3,b,rfl,h4⟩
   ·have HX:=aa (And.intro h3 h4)
    clear h3 h4
    go_wp2_with fail
    go_ret
    rw[HPL.out]
    refine⟨HKT.out _ HK2.out,Or.inl ⟨HX.out.1,HX.out.2,w.heap.size,rfl,?_⟩⟩
    rw[js,uM HOPS.out.1 HOPS.out.2]
    refine fI.mk (Q:=fun _=>False) ⟨Nat.le_refl _,hz2⟩ HS2.out ?_ (cA.none _ _ _ _) cD.nil ⟨fun _ e=>e.elim,fun e=>by have:=(HO2.out.lt _ e).1;have:=HZA.out;omega,fun e=>(by cases e),fun _ _ e=>(by cases e)⟩
    rw[xK,List.length_map]
    exact⟨bz HO2.out (Nat.zero_le _),fun k hk=>⟨by have:=(HO2.out.lt k hk).1;have:=HZA.out;omega,(HO2.out.lt k hk).2⟩⟩
   ·have HO:Hid ((PR.2.must ts [59]).ok=false∧an w2 b #[.int .i64 (PR.2.must ts [59]).e,.int .i64 (PR.2.must ts [59]).a]):=⟨h3,h4⟩
    clear h3 h4
    go_wp2_with fail
    rw[HPL.out]
    exact⟨rfl,HKT.out _ HK2.out,Or.inr ⟨HO.out.1,b,rfl,HO.out.2⟩⟩
  case pos=>
  have HE:=aa ewh
  have hat:pv.v.at ts [119,104,105,108,101]=true:=by rw[HTA.out _ (by decide)];exact decide_eq_true ewh
  clear ewh
  have HCH:=aa (pi (ts:=ts) (f:=f) (d:=d) (pv:=pv) HE.out)
  have HOP:=aa (V.at_open hat)
  have HAT:=aa hat
  clear hat
  have HADV:=aa (cK.go1 HT.out HV.out.lt HOP.out)
  refine(aZ HVA.out ⟨#[119,104,105,108,101]⟩ HAT.out).mono ?_
  rintro e w1 ⟨hk,hx⟩
  have HK1:Hid (ae (eP br bw w.heap.size) wA w1):=hk.thr2
  have HS1:=aa (HSA.out.kept hk HNT.out)
  clear hk
  rcases hx with⟨h3,h4,rfl⟩|⟨h3,b,rfl,h4⟩
  case inr=>
   have HO:Hid ((pv.v.go1 ts).ok=false∧an w1 b #[.int .i64 (pv.v.go1 ts).e,.int .i64 (pv.v.go1 ts).a]):=⟨h3,h4⟩
   clear h3 h4
   go_wp2_with fail
   have e:(aW ts (aD ts f) (d+1) ⟨(pv.v.go1 ts).named ts true,eE pv ts⟩).2.v=pv.v.go1 ts:=by
    rw[eu (pv:=⟨(pv.v.go1 ts).named ts true,eE pv ts⟩) (by simpa only[V.named_no HO.out.1]using HO.out.1)];exact V.named_no HO.out.1 _
   rw[HCH.out.1,e]
   exact⟨rfl,HKT.out _ HK1.out,Or.inr ⟨HO.out.1,b,rfl,HO.out.2⟩⟩
  case inl=>
  have HV1:=aa h4
  clear h3 h4
  have HG1:Hid (dT ⟨pv.v.go1 ts,eE pv ts⟩):=fun x=>by have:=HG.out HV.out.ok;have:=(HADV.out.ok x).2;show(eE pv ts).length≤(pv.v.go1 ts).i;simp[eE];omega
  have HF1:Hid (ts.length≤f+(pv.v.go1 ts).i):=by show _≤_;have:=(HADV.out.ok HV1.out.ok).2;omega
  go_wp2_with fail
  refine(AZ HBK.out HV1.out (by omega) (eE pv ts) HG1.out HF1.out (kR pv ts) ⟨rfl,rfl,rfl⟩ rfl HS1.out h1 h2).mono ?_
  rintro e w2 ⟨hk,hx⟩
  have HK2:=aa (HK1.out.trans hk)
  have hz2:=hk.size
  have hz1:=HK1.out.size
  clear hk
  rcases hx with⟨h3,h4,rfl,h5⟩|⟨h3,b,rfl,h4⟩
  ·have HX:=aa (And.intro h3 (And.intro h4 h5))
   clear h3 h4 h5
   go_wp2_with fail
   go_ret
   rw[HCH.out.1,HCH.out.2]
   refine⟨HKT.out _ HK2.out,Or.inl ⟨HX.out.1,HX.out.2.1,w.heap.size,rfl,?_⟩⟩
   have hza:=HZA.out
   exact HX.out.2.2.keep (ae.refl (fun _=>False) _) (fun b hb=>⟨by rcases hb with e|e;omega;exact e.2,fun e=>e,HOWN.out w2 b (by rcases hb with e|e;exact Or.inl e;exact Or.inr ⟨by omega,e.2⟩) (by omega)⟩)
  ·have HO:=aa (And.intro h3 h4)
   clear h3 h4
   go_wp2_with fail
   rw[HCH.out.1]
   exact⟨rfl,HKT.out _ HK2.out,Or.inr ⟨HO.out.1,b,rfl,HO.out.2⟩⟩
end
end Go.Proofs.YtmdaflepdaiabaaGreatDoor
