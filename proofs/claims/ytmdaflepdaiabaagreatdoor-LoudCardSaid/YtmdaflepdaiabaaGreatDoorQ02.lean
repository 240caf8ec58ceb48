import Derived.Deep.LoopGhost
import Derived.Test.YtmdaflepdaiabaaGreatDoorQ01
set_option linter.unusedSimpArgs false
set_option linter.unusedVariables false
namespace Go.Proofs.YtmdaflepdaiabaaGreatDoor
section
set_option maxRecDepth 100000
set_option maxHeartbeats 2000000
open Go.RowKit
theorem V.listLoop_no{ts:List aI}{v:V}(h:v.ok=false)(num:Bool):(V.listLoop ts num v).2=v:=by
 unfold V.listLoop
 split
 ·rfl
 ·cases ts.length with
  |zero=>rfl
  |succ f=>simp[V.listF,V.named_no h,h]
theorem aU{w w':World}{S:Nat→Prop}{B e size n:Nat}{v:Value}{xs:List Value}(h:w.ownsRow B e size v n xs)(k:ae S w w')(hS:∀i,S i→i< B):w'.ownsRow B e size v n xs:=by
 refine⟨h.1,?_⟩
 rcases h.2 with hn|⟨g,cap,cur,hv,hg,hh,r⟩
 ·exact Or.inl hn
 ·have hlt:g< w.heap.size:=by
   rcases Nat.lt_or_ge g w.heap.size with h|h
   ·exact h
   ·rw[Array.getElem?_eq_none h]at hh;cases hh
  exact Or.inr ⟨g,cap,cur,hv,hg,by rw[k.block g hlt (fun e=>by have:=hS g e;omega)];exact hh,r⟩
def mr(t:aI):List Value:=[.string ⟨t.text.toArray⟩,.int .i64 t.at_,.int .i64 0]
def eX(l:List aI):List Value:=l.flatMap mr
theorem qw(l:List aI)(t:aI):eX (l++[t])=eX l++mr t:=by simp[eX]
theorem ue(t:aI):(mr t).length=3:=by rfl
theorem ud(t:aI):∀u∈mr t,u.oneCell'=true:=by intro u hu;simp[mr]at hu;rcases hu with h|h|h<;>subst h<;>rfl
theorem nu:(Tryz.prog.info? 96).map (fun i=>(i.zero,i.size,i.bytes))=some (some (.agg #[.string ⟨#[]⟩,.int .i64 0,.int .i64 0]),3,32):=by kernel_rfl
structure sU(w wr:World)(br bw:Nat)(s:ByteArray)(ts:List aI)(R:List aI×V)(acc:List aI)(v:V)(l:Value)(dep:Nat):Prop where
 own:wr.ownsRow w.heap.size 96 3 l (acc.length+1) (eX (acc++[v.here ts]))
 rv:RV wr br bw s ts (v.named ts false) dep
 kp:ae (eZ br bw) w wr
 la:cx ts false R acc v true
 lt:v.i< ts.length
theorem tW{w:World}{br bw:Nat}{s:ByteArray}{ts:List aI}{v:V}{dep:Nat}(h:RV w br bw s ts v dep):
  Calls Tryz.prog 42 #[.pointer (some ⟨br,0,none⟩),.func (.func 40) #[.pointer (some ⟨br,0,none⟩)] #[]] w fun r w'=>ig w w' br bw s ts (V.list ts false v).2 dep r (fun r w'=>∃l,r=.returned l∧w'.ownsRow w.heap.size 96 3 l (V.list ts false v).1.length (eX (V.list ts false v).1)):=by
 obtain⟨i0,hi,hz0,hz1,hz2⟩:=info_parts nu
 have HV:=aa h
 have HT:=aa h.tk
 have hlt:=h.rb.lt
 have hlw:=h.wb.lt
 have h7:ts.length≤701:=by have:=h.tk.len;rw[bJ]at this;have:=h.sz;omega
 have HR:Hid (V.list ts false v=((V.listLoop ts false (v.must ts [40])).1,(V.listLoop ts false (v.must ts [40])).2.must ts [41])):=rfl
 clear h
 go_enter Tryz.func42,Tryz.ntmps42
 go_wp2_with fail
 refine(fk HV.out ⟨#[40]⟩).mono ?_
 rintro e w1 ⟨hk1,⟨h1,h2,rfl⟩|⟨h1,b,rfl,h2⟩⟩
 case inr=>
  have HO:Hid (ig w w1 br bw s ts (V.list ts false v).2 dep (cY b) (fun r w'=>∃l,r=.returned l∧w'.ownsRow w.heap.size 96 3 l (V.list ts false v).1.length (eX (V.list ts false v).1))):=by
   refine⟨hk1,Or.inr ?_⟩
   have h1':(v.must ts [40]).ok=false:=h1
   rw[HR.out]
   simp only[V.listLoop_no h1',V.must_no h1']
   exact⟨h1',b,rfl,h2⟩
  clear hk1 h1 h2
  go_wp2_with fail
  exact⟨rfl,HO.out⟩
 case inl=>
 have HV1:Hid (RV w1 br bw s ts (v.must ts [40]) dep):=h2
 have HK1:=aa hk1
 have HS:=aa (cx.start ts false (v.must ts [40]))
 clear hk1 h1 h2 HV
 generalize hv1:v.must ts [40]=v1 at *
 clear hv1
 cases hat:v1.at ts [41]
 ·have HAT:=aa hat
  rw[hat]at HS
  clear hat
  generalize hR:V.listLoop ts false v1=R at *
  clear hR
  go_wp2_with fail
  refine(bU HV1.out ⟨#[41]⟩ HAT.out).mono ?_
  rintro e wq ⟨rfl,hq⟩
  subst wq
  go_wp2_with fail
  refine(gU HV1.out).mono ?_
  rintro e w2 ⟨hk2,⟨h1,h2,rfl⟩|⟨h1,b,rfl,h2⟩⟩
  case inr=>
   have HO:Hid (ig w w2 br bw s ts (V.list ts false v).2 dep (cY b) (fun r w'=>∃l,r=.returned l∧w'.ownsRow w.heap.size 96 3 l (V.list ts false v).1.length (eX (V.list ts false v).1))):=by
    refine⟨HK1.out.trans hk2,Or.inr ?_⟩
    have hst:=(cx.stop HV1.out.lt HS.out (by rw[h1,Bool.and_false])).1
    rw[HR.out,hst]
    simp only[V.must_no h1]
    exact⟨h1,b,rfl,h2⟩
   clear hk2 h1 h2
   go_wp2_with fail
   exact⟨rfl,HO.out⟩
  case inl=>
  have HV2:=aa h2
  have HK2:=aa (HK1.out.trans hk2)
  have hz2w:w.heap.size≤w2.heap.size:=HK2.out.size
  have HLL:Hid (sU w (w2.alloc (.cells (mr (v1.here ts)).toArray 96)) br bw s ts R [] v1 (.slice (some ⟨w2.heap.size,0,none⟩) 1 1) dep):=
   ⟨jR _ _ (by simp[eX,ue]) (by simp[eX]) hz2w,h2.below ((Below.refl _ _).alloc (Nat.le_refl _) _),(HK1.out.trans hk2).alloc _,HS.out,HV1.out.lt⟩
  clear h1 h2 hk2
  unfold eW
  go_wp2_with fail
  go_loopg [5] ts.length (fun g l wr=>∃acc v',ts.length≤g+v'.i∧Hid (sU w wr br bw s ts R acc v' l dep))
  case atStart=>exact⟨[],v1,by omega,HLL⟩
  case round=>
   obtain⟨acc,v',hg,HL⟩:=hrel
   have hlt':=HL.out.lt
   have hal:=HL.out.la.len
   have HU:=aa HL.out.rv
   cases hc:(v'.named ts false).at ts [44]
   ·have HC:=aa hc
    have hst:=(cx.stop HL.out.lt HL.out.la (by rw[hc];rfl)).1
    have HST:=aa hst
    clear hc hst
    go_wp2_with fail
    refine(bU HU.out ⟨#[44]⟩ HC.out).mono ?_
    rintro e wq ⟨rfl,hq⟩
    subst wq
    go_wp2_with fail
    refine(fk HU.out ⟨#[41]⟩).mono ?_
    rintro e w5 ⟨hk5,⟨h1,h2,rfl⟩|⟨h1,b,rfl,h2⟩⟩
    ·have HO:Hid (ae (eZ br bw) w w5∧((v'.named ts false).must ts [41]).ok=true∧RV w5 br bw s ts ((v'.named ts false).must ts [41]) dep):=⟨HL.out.kp.trans hk5,h1,h2⟩
     have HOW:=aa (aU HL.out.own hk5 (fun i e=>by rcases e with e|e<;>omega))
     clear hk5 h1 h2
     go_wp2_with fail
     go_ret
     refine⟨HO.out.1,Or.inl ⟨?_,?_,_,rfl,?_⟩⟩
     ·rw[HR.out,HST.out];exact HO.out.2.1
     ·rw[HR.out,HST.out];exact HO.out.2.2
     ·rw[HR.out,HST.out]
      simp only[List.length_append,List.length_cons,List.length_nil]
      exact HOW.out
    ·have HO:Hid (ig w w5 br bw s ts (V.list ts false v).2 dep (cY b) (fun r w'=>∃l,r=.returned l∧w'.ownsRow w.heap.size 96 3 l (V.list ts false v).1.length (eX (V.list ts false v).1))):=by
      refine⟨HL.out.kp.trans hk5,Or.inr ?_⟩
      rw[HR.out,HST.out]
      exact⟨h1,b,rfl,h2⟩
     clear hk5 h1 h2
     go_wp2_with fail
     exact⟨rfl,HO.out⟩
   ·have HC:=aa hc
    have hmo:=cx.more HT.out HL.out.lt HU.out.lt HL.out.la (by rw[hc,HU.out.ok];rfl)
    rw[V.must_yes hc]at hmo
    have HMO:=aa hmo
    clear hc hmo
    go_wp2_with fail
    refine(aZ HU.out ⟨#[44]⟩ HC.out).mono ?_
    rintro e w3 ⟨hk3,⟨h1,h2,rfl⟩|⟨h1,b,rfl,h2⟩⟩
    case inr=>
     have HO:Hid (ig w w3 br bw s ts (V.list ts false v).2 dep (cY b) (fun r w'=>∃l,r=.returned l∧w'.ownsRow w.heap.size 96 3 l (V.list ts false v).1.length (eX (V.list ts false v).1))):=by
      refine⟨HL.out.kp.trans hk3,Or.inr ?_⟩
      have hst:=(cx.stop (V.go1_lt HU.out.lt) HMO.out.1 (by rw[V.named_no h1,h1,Bool.and_false])).1
      rw[HR.out,hst]
      simp only[V.named_no h1,V.must_no h1]
      exact⟨h1,b,rfl,h2⟩
     clear hk3 h1 h2
     go_wp2_with fail
     exact⟨rfl,HO.out⟩
    case inl=>
    have HV3:=aa h2
    have HK3:=aa (HL.out.kp.trans hk3)
    have HOW3:=aa (aU HL.out.own hk3 (fun i e=>by rcases e with e|e<;>omega))
    clear h1 h2 hk3 HU
    generalize hv2:(v'.named ts false).go1 ts=v2 at *
    clear hv2
    go_wp2_with fail
    refine(gU HV3.out).mono ?_
    rintro e w4 ⟨hk4,⟨h1,h2,rfl⟩|⟨h1,b,rfl,h2⟩⟩
    case inr=>
     have HO:Hid (ig w w4 br bw s ts (V.list ts false v).2 dep (cY b) (fun r w'=>∃l,r=.returned l∧w'.ownsRow w.heap.size 96 3 l (V.list ts false v).1.length (eX (V.list ts false v).1))):=by
      refine⟨HK3.out.trans hk4,Or.inr ?_⟩
      have hst:=(cx.stop HV3.out.lt HMO.out.1 (by rw[h1,Bool.and_false])).1
      rw[HR.out,hst]
      simp only[V.must_no h1]
      exact⟨h1,b,rfl,h2⟩
     clear hk4 h1 h2
     go_wp2_with fail
     exact⟨rfl,HO.out⟩
    case inl=>
    have HV4:=aa h2
    have HK4:=aa (HK3.out.trans hk4)
    have hown4:=aU HOW3.out hk4 (fun i e=>by rcases e with e|e<;>omega)
    have hz4:w.heap.size≤w4.heap.size:=HK4.out.size
    have HVL:=aa HV3.out.lt
    clear h1 h2 hk4 HV3 HK3 HOW3
    have hone:=ud (v2.here ts)
    have hv2l:=HV4.out.lt
    unfold eW
    go_wp2_with (at_builtin;refine wpList_append_own _ rfl _ _ 97 rfl w.heap.size 96 i0 (.agg #[.string ⟨#[]⟩,.int .i64 0,.int .i64 0]) 3 32 Tryz.underlying97 hi hz0 hz1 hz2 rfl (by decide) _ _ _ rfl (hown4.alloc _) ⟨w4.heap.size,0,none⟩ 1 1 (mr (v2.here ts)) rfl rfl (aF _ _ _ _ (by simp)) hone (by unfold maxLen;omega) (by omega) (by simp;omega) ?_;intro l2 w6 hown6 hgrow6 _)
    have HLN:Hid (sU w w6 br bw s ts R (acc++[v'.here ts]) v2 l2 dep):=by
     refine⟨?_,(HV4.out.below ((Below.refl _ _).alloc (Nat.le_refl _) _)).kept (S:=fun k=>Value.ownBlock _=some k) ((ae.refl _ _).grown hgrow6 (fun k hk=>Or.inl hk)) (fun e=>by have:=(hown4.lt _ e).1;omega) (fun e=>by have:=(hown4.lt _ e).1;omega),(HK4.out.alloc _).grown hgrow6 (fun k hk=>Or.inr (hown4.lt k hk).1),HMO.out.1,?_⟩
     ·rw[qw];simpa using hown6
     ·exact HVL.out
    clear hgrow6 hown6 hown4
    go_wp2_with fail
    go_roundg (gk-1)
    case measure=>omega
    case rel=>exact⟨_,v2,by have:=HMO.out.2;omega,HLN⟩
 ·have HAT:=aa hat
  clear hat HS
  have HLR:Hid (V.list ts false v=([],v1.go1 ts)):=by show _=_;rw[HR.out];unfold V.listLoop;rw[HAT.out];simp[V.must_yes HAT.out]
  go_wp2_with fail
  refine(aZ HV1.out ⟨#[41]⟩ HAT.out).mono ?_
  rintro e w2 ⟨hk2,⟨h1,h2,rfl⟩|⟨h1,b,rfl,h2⟩⟩
  ·have HO:Hid (ae (eZ br bw) w w2∧(v1.go1 ts).ok=true∧RV w2 br bw s ts (v1.go1 ts) dep):=⟨HK1.out.trans hk2,h1,h2⟩
   clear hk2 h1 h2
   go_wp2_with fail
   go_ret
   rw[HLR.out]
   exact⟨HO.out.1,Or.inl ⟨HO.out.2.1,HO.out.2.2,_,rfl,World.ownsRow_nil _ _ _ _⟩⟩
  ·have HO:Hid (ae (eZ br bw) w w2∧(v1.go1 ts).ok=false∧an w2 b #[.int .i64 (v1.go1 ts).e,.int .i64 (v1.go1 ts).a]):=⟨HK1.out.trans hk2,h1,h2⟩
   clear hk2 h1 h2
   go_wp2_with fail
   rw[HLR.out]
   exact⟨rfl,HO.out.1,Or.inr ⟨HO.out.2.1,b,rfl,HO.out.2.2⟩⟩
def gC(t:aI):List Value:=[.string ⟨(ki t).toArray⟩,.int .i64 (yH t),.int .i64 0,.int .i64 (pq t)]
def db(l:List aI):List Value:=l.flatMap gC
theorem qT(l:List aI)(t:aI):db (l++[t])=db l++gC t:=by simp[db]
theorem uQ(t:aI):(gC t).length=4:=by rfl
theorem ib(t:aI):∀u∈gC t,u.oneCell'=true:=by intro u hu;simp[gC]at hu;rcases hu with h|h|h|h<;>subst h<;>rfl
theorem jx:(Tryz.prog.info? 193).map (fun i=>(i.zero,i.size,i.bytes))=some (some (.agg #[.string ⟨#[]⟩,.int .i64 0,.int .i64 0,.int .i64 0]),4,40):=by kernel_rfl
structure sV(w wr:World)(br bw:Nat)(s:ByteArray)(ts:List aI)(R:List aI×V)(acc:List aI)(v:V)(l:Value)(dep:Nat):Prop where
 own:wr.ownsRow w.heap.size 193 4 l (acc.length+1) (db (acc++[v.here ts]))
 rv:RV wr br bw s ts (v.named ts true) dep
 kp:ae (eZ br bw) w wr
 la:cx ts true R acc v true
 lt:v.i< ts.length
theorem tX{w:World}{br bw:Nat}{s:ByteArray}{ts:List aI}{v:V}{dep:Nat}(h:RV w br bw s ts v dep):
  Calls Tryz.prog 206 #[.pointer (some ⟨br,0,none⟩),.func (.func 126) #[.pointer (some ⟨br,0,none⟩)] #[]] w fun r w'=>ig w w' br bw s ts (V.list ts true v).2 dep r (fun r w'=>∃l,r=.returned l∧w'.ownsRow w.heap.size 193 4 l (V.list ts true v).1.length (db (V.list ts true v).1)):=by
 obtain⟨i0,hi,hz0,hz1,hz2⟩:=info_parts jx
 have HV:=aa h
 have HT:=aa h.tk
 have hlt:=h.rb.lt
 have hlw:=h.wb.lt
 have h7:ts.length≤701:=by have:=h.tk.len;rw[bJ]at this;have:=h.sz;omega
 have HR:Hid (V.list ts true v=((V.listLoop ts true (v.must ts [40])).1,(V.listLoop ts true (v.must ts [40])).2.must ts [41])):=rfl
 clear h
 go_enter Tryz.func206,Tryz.ntmps206
 go_wp2_with fail
 refine(fk HV.out ⟨#[40]⟩).mono ?_
 rintro e w1 ⟨hk1,⟨h1,h2,rfl⟩|⟨h1,b,rfl,h2⟩⟩
 case inr=>
  have HO:Hid (ig w w1 br bw s ts (V.list ts true v).2 dep (cY b) (fun r w'=>∃l,r=.returned l∧w'.ownsRow w.heap.size 193 4 l (V.list ts true v).1.length (db (V.list ts true v).1))):=by
   refine⟨hk1,Or.inr ?_⟩
   have h1':(v.must ts [40]).ok=false:=h1
   rw[HR.out]
   simp only[V.listLoop_no h1',V.must_no h1']
   exact⟨h1',b,rfl,h2⟩
  clear hk1 h1 h2
  go_wp2_with fail
  exact⟨rfl,HO.out⟩
 case inl=>
 have HV1:Hid (RV w1 br bw s ts (v.must ts [40]) dep):=h2
 have HK1:=aa hk1
 have HS:=aa (cx.start ts true (v.must ts [40]))
 clear hk1 h1 h2 HV
 generalize hv1:v.must ts [40]=v1 at *
 clear hv1
 cases hat:v1.at ts [41]
 ·have HAT:=aa hat
  rw[hat]at HS
  clear hat
  generalize hR:V.listLoop ts true v1=R at *
  clear hR
  go_wp2_with fail
  refine(bU HV1.out ⟨#[41]⟩ HAT.out).mono ?_
  rintro e wq ⟨rfl,hq⟩
  subst wq
  go_wp2_with fail
  refine(iO HV1.out).mono ?_
  rintro e w2 ⟨hk2,⟨h1,h2,rfl⟩|⟨h1,b,rfl,h2⟩⟩
  case inr=>
   have HO:Hid (ig w w2 br bw s ts (V.list ts true v).2 dep (cY b) (fun r w'=>∃l,r=.returned l∧w'.ownsRow w.heap.size 193 4 l (V.list ts true v).1.length (db (V.list ts true v).1))):=by
    refine⟨HK1.out.trans hk2,Or.inr ?_⟩
    have hst:=(cx.stop HV1.out.lt HS.out (by rw[h1,Bool.and_false])).1
    rw[HR.out,hst]
    simp only[V.must_no h1]
    exact⟨h1,b,rfl,h2⟩
   clear hk2 h1 h2
   go_wp2_with fail
   exact⟨rfl,HO.out⟩
  case inl=>
  have HV2:=aa h2
  have HK2:=aa (HK1.out.trans hk2)
  have hz2w:w.heap.size≤w2.heap.size:=HK2.out.size
  have HLL:Hid (sV w (w2.alloc (.cells (gC (v1.here ts)).toArray 193)) br bw s ts R [] v1 (.slice (some ⟨w2.heap.size,0,none⟩) 1 1) dep):=
   ⟨jR _ _ (by simp[db,uQ]) (by simp[db]) hz2w,h2.below ((Below.refl _ _).alloc (Nat.le_refl _) _),(HK1.out.trans hk2).alloc _,HS.out,HV1.out.lt⟩
  clear h1 h2 hk2
  unfold ef
  go_wp2_with fail
  go_loopg [5] ts.length (fun g l wr=>∃acc v',ts.length≤g+v'.i∧Hid (sV w wr br bw s ts R acc v' l dep))
  case atStart=>exact⟨[],v1,by omega,HLL⟩
  case round=>
   obtain⟨acc,v',hg,HL⟩:=hrel
   have hlt':=HL.out.lt
   have hal:=HL.out.la.len
   have HU:=aa HL.out.rv
   cases hc:(v'.named ts true).at ts [44]
   ·have HC:=aa hc
    have hst:=(cx.stop HL.out.lt HL.out.la (by rw[hc];rfl)).1
    have HST:=aa hst
    clear hc hst
    go_wp2_with fail
    refine(bU HU.out ⟨#[44]⟩ HC.out).mono ?_
    rintro e wq ⟨rfl,hq⟩
    subst wq
    go_wp2_with fail
    refine(fk HU.out ⟨#[41]⟩).mono ?_
    rintro e w5 ⟨hk5,⟨h1,h2,rfl⟩|⟨h1,b,rfl,h2⟩⟩
    ·have HO:Hid (ae (eZ br bw) w w5∧((v'.named ts true).must ts [41]).ok=true∧RV w5 br bw s ts ((v'.named ts true).must ts [41]) dep):=⟨HL.out.kp.trans hk5,h1,h2⟩
     have HOW:=aa (aU HL.out.own hk5 (fun i e=>by rcases e with e|e<;>omega))
     clear hk5 h1 h2
     go_wp2_with fail
     go_ret
     refine⟨HO.out.1,Or.inl ⟨?_,?_,_,rfl,?_⟩⟩
     ·rw[HR.out,HST.out];exact HO.out.2.1
     ·rw[HR.out,HST.out];exact HO.out.2.2
     ·rw[HR.out,HST.out]
      simp only[List.length_append,List.length_cons,List.length_nil]
      exact HOW.out
    ·have HO:Hid (ig w w5 br bw s ts (V.list ts true v).2 dep (cY b) (fun r w'=>∃l,r=.returned l∧w'.ownsRow w.heap.size 193 4 l (V.list ts true v).1.length (db (V.list ts true v).1))):=by
      refine⟨HL.out.kp.trans hk5,Or.inr ?_⟩
      rw[HR.out,HST.out]
      exact⟨h1,b,rfl,h2⟩
     clear hk5 h1 h2
     go_wp2_with fail
     exact⟨rfl,HO.out⟩
   ·have HC:=aa hc
    have hmo:=cx.more HT.out HL.out.lt HU.out.lt HL.out.la (by rw[hc,HU.out.ok];rfl)
    rw[V.must_yes hc]at hmo
    have HMO:=aa hmo
    clear hc hmo
    go_wp2_with fail
    refine(aZ HU.out ⟨#[44]⟩ HC.out).mono ?_
    rintro e w3 ⟨hk3,⟨h1,h2,rfl⟩|⟨h1,b,rfl,h2⟩⟩
    case inr=>
     have HO:Hid (ig w w3 br bw s ts (V.list ts true v).2 dep (cY b) (fun r w'=>∃l,r=.returned l∧w'.ownsRow w.heap.size 193 4 l (V.list ts true v).1.length (db (V.list ts true v).1))):=by
      refine⟨HL.out.kp.trans hk3,Or.inr ?_⟩
      have hst:=(cx.stop (V.go1_lt HU.out.lt) HMO.out.1 (by rw[V.named_no h1,h1,Bool.and_false])).1
      rw[HR.out,hst]
      simp only[V.named_no h1,V.must_no h1]
      exact⟨h1,b,rfl,h2⟩
     clear hk3 h1 h2
     go_wp2_with fail
     exact⟨rfl,HO.out⟩
    case inl=>
    have HV3:=aa h2
    have HK3:=aa (HL.out.kp.trans hk3)
    have HOW3:=aa (aU HL.out.own hk3 (fun i e=>by rcases e with e|e<;>omega))
    clear h1 h2 hk3 HU
    generalize hv2:(v'.named ts true).go1 ts=v2 at *
    clear hv2
    go_wp2_with fail
    refine(iO HV3.out).mono ?_
    rintro e w4 ⟨hk4,⟨h1,h2,rfl⟩|⟨h1,b,rfl,h2⟩⟩
    case inr=>
     have HO:Hid (ig w w4 br bw s ts (V.list ts true v).2 dep (cY b) (fun r w'=>∃l,r=.returned l∧w'.ownsRow w.heap.size 193 4 l (V.list ts true v).1.length (db (V.list ts true v).1))):=by
      refine⟨HK3.out.trans hk4,Or.inr ?_⟩
      have hst:=(cx.stop HV3.out.lt HMO.out.1 (by rw[h1,Bool.and_false])).1
      rw[HR.out,hst]
      simp only[V.must_no h1]
      exact⟨h1,b,rfl,h2⟩
     clear hk4 h1 h2
     go_wp2_with fail
     exact⟨rfl,HO.out⟩
    case inl=>
    have HV4:=aa h2
    have HK4:=aa (HK3.out.trans hk4)
    have hown4:=aU HOW3.out hk4 (fun i e=>by rcases e with e|e<;>omega)
    have hz4:w.heap.size≤w4.heap.size:=HK4.out.size
    have HVL:=aa HV3.out.lt
    clear h1 h2 hk4 HV3 HK3 HOW3
    have hone:=ib (v2.here ts)
    have hv2l:=HV4.out.lt
    unfold ef
    go_wp2_with (at_builtin;refine wpList_append_own _ rfl _ _ 158 rfl w.heap.size 193 i0 (.agg #[.string ⟨#[]⟩,.int .i64 0,.int .i64 0,.int .i64 0]) 4 40 Tryz.underlying158 hi hz0 hz1 hz2 rfl (by decide) _ _ _ rfl (hown4.alloc _) ⟨w4.heap.size,0,none⟩ 1 1 (gC (v2.here ts)) rfl rfl (aF _ _ _ _ (by simp)) hone (by unfold maxLen;omega) (by omega) (by simp;omega) ?_;intro l2 w6 hown6 hgrow6 _)
    have HLN:Hid (sV w w6 br bw s ts R (acc++[v'.here ts]) v2 l2 dep):=by
     refine⟨?_,(HV4.out.below ((Below.refl _ _).alloc (Nat.le_refl _) _)).kept (S:=fun k=>Value.ownBlock _=some k) ((ae.refl _ _).grown hgrow6 (fun k hk=>Or.inl hk)) (fun e=>by have:=(hown4.lt _ e).1;omega) (fun e=>by have:=(hown4.lt _ e).1;omega),(HK4.out.alloc _).grown hgrow6 (fun k hk=>Or.inr (hown4.lt k hk).1),HMO.out.1,?_⟩
     ·rw[qT];simpa using hown6
     ·exact HVL.out
    clear hgrow6 hown6 hown4
    go_wp2_with fail
    go_roundg (gk-1)
    case measure=>omega
    case rel=>exact⟨_,v2,by have:=HMO.out.2;omega,HLN⟩
 ·have HAT:=aa hat
  clear hat HS
  have HLR:Hid (V.list ts true v=([],v1.go1 ts)):=by show _=_;rw[HR.out];unfold V.listLoop;rw[HAT.out];simp[V.must_yes HAT.out]
  go_wp2_with fail
  refine(aZ HV1.out ⟨#[41]⟩ HAT.out).mono ?_
  rintro e w2 ⟨hk2,⟨h1,h2,rfl⟩|⟨h1,b,rfl,h2⟩⟩
  ·have HO:Hid (ae (eZ br bw) w w2∧(v1.go1 ts).ok=true∧RV w2 br bw s ts (v1.go1 ts) dep):=⟨HK1.out.trans hk2,h1,h2⟩
   clear hk2 h1 h2
   go_wp2_with fail
   go_ret
   rw[HLR.out]
   exact⟨HO.out.1,Or.inl ⟨HO.out.2.1,HO.out.2.2,_,rfl,World.ownsRow_nil _ _ _ _⟩⟩
  ·have HO:Hid (ae (eZ br bw) w w2∧(v1.go1 ts).ok=false∧an w2 b #[.int .i64 (v1.go1 ts).e,.int .i64 (v1.go1 ts).a]):=⟨HK1.out.trans hk2,h1,h2⟩
   clear hk2 h1 h2
   go_wp2_with fail
   rw[HLR.out]
   exact⟨rfl,HO.out.1,Or.inr ⟨HO.out.2.1,b,rfl,HO.out.2.2⟩⟩
end
section
set_option maxRecDepth 100000
set_option maxHeartbeats 1000000
open Go.RowKit
section
variable {w:World} {b:Nat} {p:Ph} {sr sb:Value}
theorem an.pkind(H:an w b (aK p sr sb))(m:Nat)(z:Int)(e:z=m):an (w.setCell ⟨b,2,none⟩ (.int .i64 z)) b (aK {p with kind:=m} sr sb):=by subst e;exact H.set 2 _ (show 2< 14 by decide)
theorem an.pop(H:an w b (aK p sr sb))(m:Nat)(z:Int)(e:z=m):an (w.setCell ⟨b,6,none⟩ (.int .i64 z)) b (aK {p with op:=m} sr sb):=by subst e;exact H.set 6 _ (show 6< 14 by decide)
theorem an.pside(H:an w b (aK p sr sb))(m:Nat):an (w.setCell ⟨b,7,none⟩ (.int .i64 m)) b (aK {p with side:=m} sr sb):=H.set 7 _ (show 7< 14 by decide)
theorem an.pwa(H:an w b (aK p sr sb))(m:Nat):an (w.setCell ⟨b,8,none⟩ (.int .i64 m)) b (aK {p with wa:=m} sr sb):=H.set 8 _ (show 8< 14 by decide)
theorem an.pright(H:an w b (aK p sr sb))(v:Value):an (w.setCell ⟨b,12,none⟩ v) b (aK p v sb):=H.set 12 _ (show 12< 14 by decide)
theorem an.pblocks(H:an w b (aK p sr sb))(v:Value):an (w.setCell ⟨b,13,none⟩ v) b (aK p sr v):=H.set 13 _ (show 13< 14 by decide)
theorem an.pleft(H:an w b (aK p sr sb))(t:aj)(a n:Nat)(z:Int)(e:z=n):an (((w.setCell ⟨b,3,none⟩ (.string ⟨t.toArray⟩)).setCell ⟨b,4,none⟩ (.int .i64 a)).setCell ⟨b,5,none⟩ (.int .i64 z)) b (aK {p with lt:=t,la:=a,ln:=n} sr sb):=by
 subst e;exact((H.set 3 _ (show 3< 14 by decide)).set 4 _ (show 4< 14 by decide)).set 5 _ (show 5< 14 by decide)
theorem an.pnamed(H:an w b (aK p sr sb))(t:aj)(a n:Nat)(z:Int)(e:z=n):an (((w.setCell ⟨b,9,none⟩ (.string ⟨t.toArray⟩)).setCell ⟨b,10,none⟩ (.int .i64 a)).setCell ⟨b,11,none⟩ (.int .i64 z)) b (aK {p with nt:=t,na:=a,nn:=n} sr sb):=by
 subst e;exact((H.set 9 _ (show 9< 14 by decide)).set 10 _ (show 10< 14 by decide)).set 11 _ (show 11< 14 by decide)
end
theorem aJ{w:World}{B e size n b:Nat}{v:Value}{xs:List Value}(h:w.ownsRow B e size v n xs)(j:Nat)(u:Value)(hb:b< B):(w.setCell ⟨b,j,none⟩ u).ownsRow B e size v n xs:=
 aU (S:=ao b) h ((ae.refl _ w).set1 j u) (fun i e=>by have:i=b:=e;omega)
def mV(S:Nat→Prop)(w w':World)(br bw:Nat)(s:ByteArray)(ts:List aI)(v:V)(dep:Nat)(r:Ending)(R:Ending→World→Prop):Prop:=
 ae S w w'∧((v.ok=true∧RV w' br bw s ts v dep∧R r w')∨(v.ok=false∧cc w' r v.e v.a))
abbrev eP(br bw bs:Nat):Nat→Prop:=fun k=>eZ br bw k∨k=bs
section
variable {w:World} {br bw bs:Nat} {s:ByteArray} {ts:List aI} {v:V} {dep:Nat} {p:Ph} {sr sb:Value}
theorem RV.setO(h:RV w br bw s ts v dep)(b j:Nat)(u:Value)(h1:b≠br)(h2:b≠bw):RV (w.setCell ⟨b,j,none⟩ u) br bw s ts v dep:=
 h.kept (S:=ao b) ((ae.refl _ w).set1 j u) (fun e=>h1 e.symm) (fun e=>h2 e.symm)
theorem ae.thr2{w w':World}(k:ae (eZ br bw) w w'):ae (eP br bw bs) w w':=k.mono (fun _ e=>Or.inl e)
theorem ae.thrS{a w:World}(k:ae (eP br bw bs) a w)(j:Nat)(u:Value):ae (eP br bw bs) a (w.setCell ⟨bs,j,none⟩ u):=k.setCell (p:=⟨bs,j,none⟩) (Or.inl (Or.inr rfl)) u
def Au(w':World)(B bs:Nat)(p:Ph)(l:List aI)(sb:Value):Prop:=∃sr,an w' bs (aK p sr sb)∧w'.ownsRow B 193 4 sr l.length (db l)
def V.sideV(ts:List aI)(v:V):V:=if(v.here ts).text=[108]∨(v.here ts).text=[114]then v.named ts false else(v.named ts false).flt 5 (v.here ts).at_
def eC(t:aj):Nat:=if t=[114]then 1 else 0
theorem yU(h:RV w br bw s ts v dep):
  Calls Tryz.prog 183 #[.pointer (some ⟨br,0,none⟩)] w fun r w'=>ig w w' br bw s ts (V.sideV ts v) dep r (fun r _=>r=.returned (.int .i64 (eC (v.here ts).text))):=by
 have HV:=aa h
 clear h
 go_enter Tryz.func183,Tryz.ntmps183
 go_wp2_with fail
 refine(gU HV.out).mono ?_
 rintro e w1 ⟨hk,⟨h1,h2,rfl⟩|⟨h1,b,rfl,h2⟩⟩
 ·have HK:=aa hk
  have H1:=aa h1
  have H2:=aa h2
  clear hk h1 h2
  have HSV:Hid (V.sideV ts v=if(v.here ts).text=[108]∨(v.here ts).text=[114]then v.named ts false else(v.named ts false).flt 5 (v.here ts).at_):=rfl
  have HSN:Hid (eC (v.here ts).text=if(v.here ts).text=[114]then 1 else 0):=rfl
  generalize htx:(v.here ts).text=tx at *
  replace htx:=aa htx
  unfold eW
  rw[htx.out]
  by_cases hl:tx=[108]
  ·subst hl
   have HA:=aa (HSV.out.trans (if_pos (Or.inl rfl)))
   have HB:=aa (HSN.out.trans (if_neg (by decide)))
   go_wp2_with fail
   go_ret
   rw[HA.out,htx.out,HB.out]
   exact⟨HK.out.alloc _,Or.inl ⟨H1.out,H2.out.below ((Below.refl _ _).alloc (Nat.le_refl _) _),rfl⟩⟩
  ·by_cases hr:tx=[114]
   ·subst hr
    have HA:=aa (HSV.out.trans (if_pos (Or.inr rfl)))
    have HB:=aa (HSN.out.trans (if_pos rfl))
    go_wp2_with fail
    go_ret
    rw[HA.out,htx.out,HB.out]
    exact⟨HK.out.alloc _,Or.inl ⟨H1.out,H2.out.below ((Below.refl _ _).alloc (Nat.le_refl _) _),rfl⟩⟩
   ·have bl:(tx==[108])=false:=beq_eq_false_iff_ne.2 hl
    have br':(tx==[114])=false:=beq_eq_false_iff_ne.2 hr
    have HA:=aa (HSV.out.trans (if_neg (fun e=>e.elim hl hr)))
    clear hl hr
    go_wp2_with fail
    refine(bo 5 (v.here ts).at_ _).mono ?_
    rintro e w2 ⟨⟨b,rfl,h3⟩,h4⟩
    replace h3:=aa h3
    replace h4:=aa h4
    go_wp2_with fail
    rw[HA.out]
    have hf:=V.flt_yes H1.out 5 (v.here ts).at_ (by decide)
    exact⟨rfl,(HK.out.alloc _).below h4.out,Or.inr ⟨hf.1,b,rfl,by rw[hf.2.1,hf.2.2];exact h3.out⟩⟩
 ·have HO:Hid (ae (eZ br bw) w w1∧(v.named ts false).ok=false∧an w1 b #[.int .i64 (v.named ts false).e,.int .i64 (v.named ts false).a]):=⟨hk,h1,h2⟩
  clear hk h1 h2
  go_wp2_with fail
  have HA:V.sideV ts v=v.named ts false:=by unfold V.sideV;rw[V.flt_no HO.out.2.1,ite_self]
  rw[HA]
  exact⟨rfl,HO.out.1,Or.inr ⟨HO.out.2.1,b,rfl,HO.out.2.2⟩⟩
theorem vK(h:RV w br bw s ts v dep)(t:aI)(hS:an w bs (aK p sr sb))(h1:bs≠br)(h2:bs≠bw):
  Calls Tryz.prog 182 #[.pointer (some ⟨br,0,none⟩),.pointer (some ⟨bs,0,none⟩),eW t] w fun r w'=>mV (eP br bw bs) w w' br bw s ts (V.list ts true v).2 dep r (fun r w'=>r=.returned (.tuple #[])∧Au w' w.heap.size bs {p with kind:=11,nt:=t.text,na:=t.at_,nn:=0} (V.list ts true v).1 sb):=by
 have HV:=aa h
 have HS:=aa hS
 have hlb:=hS.lt
 have c2:w.cell? ⟨bs,2,none⟩=some (.int .i64 p.kind):=hS.cell 2
 have c9:w.cell? ⟨bs,9,none⟩=some (.string ⟨p.nt.toArray⟩):=hS.cell 9
 have c10:w.cell? ⟨bs,10,none⟩=some (.int .i64 p.na):=hS.cell 10
 have c11:w.cell? ⟨bs,11,none⟩=some (.int .i64 p.nn):=hS.cell 11
 have cf:=hS.fz
 have hmf:∀(fn:Fn) (first cap:Array Value) (w:World),(Instr.makeFunc fn first cap).run Tryz.prog w=.ok (.func fn first cap) w:=fun _ _ _ _=>rfl
 clear h hS
 unfold eW
 go_enter Tryz.func182,Tryz.ntmps182
 go_wp2_with fail
 have HVA:=aa (((((HV.out.setO bs 2 (.int .i64 11) h1 h2).setO bs 9 (.string ⟨t.text.toArray⟩) h1 h2).setO bs 10 (.int .i64 t.at_) h1 h2).setO bs 11 (.int .i64 0) h1 h2).below ((Below.refl _ _).alloc (Nat.le_refl _) (.cells #[.string ⟨t.text.toArray⟩,.int .i64 t.at_,.int .i64 0] 96)))
 have HSA:=aa (((HS.out.pkind 11 11 rfl).pnamed t.text t.at_ 0 0 rfl).alloc (.cells #[.string ⟨t.text.toArray⟩,.int .i64 t.at_,.int .i64 0] 96))
 refine(tX HVA.out).mono ?_
 rintro e w1 ⟨hk,hx⟩
 have hkk:ae (eP br bw bs) w w1:=((((((ae.refl (eP br bw bs) w).thrS 2 _).thrS 9 _).thrS 10 _).thrS 11 _).alloc _).trans hk.thr2
 have HKK:=aa hkk
 have HS1:=aa (HSA.out.kept hk (fun e=>by rcases e with e|e<;>contradiction))
 clear hkk hk
 rcases hx with⟨h3,h4,l,rfl,hown⟩|⟨h3,b,rfl,h4⟩
 ·have H3:=aa h3
  have H4:=aa h4
  obtain⟨pl,cl,rfl⟩:=ai hown
  have HOW:=aa (bz hown (show w.heap.size≤_ by simp[World.setCell]))
  have c12:w1.cell? ⟨bs,12,none⟩=some sr:=HS1.out.cell 12
  have Cc:=HS1.out.fz
  clear h3 h4 hown c2 c9 c10 c11 cf
  go_wp2_with fail
  go_end0
  refine⟨HKK.out.thrS 12 _,Or.inl ⟨H3.out,H4.out.setO bs 12 _ h1 h2,rfl,_,HS1.out.pright _,?_⟩⟩
  exact aJ HOW.out _ _ (by omega)
 ·have HO:Hid ((V.list ts true v).2.ok=false∧an w1 b #[.int .i64 (V.list ts true v).2.e,.int .i64 (V.list ts true v).2.a]):=⟨h3,h4⟩
  clear h3 h4
  go_wp2_with fail
  exact⟨rfl,HKK.out,Or.inr ⟨HO.out.1,b,rfl,HO.out.2⟩⟩
theorem vI(h:RV w br bw s ts v dep)(hS:an w bs (aK p sr sb))(h1:bs≠br)(h2:bs≠bw)(hop:de (v.here ts)=false):
  Calls Tryz.prog 128 #[.pointer (some ⟨br,0,none⟩),.pointer (some ⟨bs,0,none⟩)] w fun r w'=>mV (eP br bw bs) w w' br bw s ts (V.list ts true ((v.go1 ts).named ts false)).2 dep r (fun r w'=>r=.returned (.tuple #[])∧Au w' w.heap.size bs {p with kind:=7,wa:=(v.here ts).at_,nt:=((v.go1 ts).here ts).text,na:=((v.go1 ts).here ts).at_,nn:=0} (V.list ts true ((v.go1 ts).named ts false)).1 sb):=by
 have HV:=aa h
 have HS:=aa hS
 have HOP:=aa hop
 have hlb:=hS.lt
 have c3:=h.rb.cell 3
 have c3':w.cell? ⟨br,1+2,none⟩=some (.int .i64 (v.here ts).at_):=h.rb.cell 3
 have c8:w.cell? ⟨bs,8,none⟩=some (.int .i64 p.wa):=hS.cell 8
 have cf:=hS.fz
 clear h hS hop
 go_enter Tryz.func128,Tryz.ntmps128
 go_wp2_with fail
 refine(nZ (HV.out.setO bs 8 _ h1 h2) HOP.out).mono ?_
 rintro e w1 ⟨hk,hx⟩
 have HK1:Hid (ae (eP br bw bs) w w1):=((ae.refl (eP br bw bs) w).thrS 8 _).trans hk.thr2
 have HS1:=aa ((HS.out.pwa (v.here ts).at_).kept hk (fun e=>by rcases e with e|e<;>contradiction))
 clear hk c3 c3' c8 cf
 rcases hx with⟨h3,h4,rfl⟩|⟨h3,b,rfl,h4⟩
 case inr=>
  have HO:Hid ((v.go1 ts).ok=false∧an w1 b #[.int .i64 (v.go1 ts).e,.int .i64 (v.go1 ts).a]):=⟨h3,h4⟩
  clear h3 h4
  go_wp2_with fail
  have e:(V.list ts true ((v.go1 ts).named ts false)).2=v.go1 ts:=by rw[V.named_no HO.out.1,V.list_no HO.out.1]
  rw[e]
  exact⟨rfl,HK1.out,Or.inr ⟨HO.out.1,b,rfl,HO.out.2⟩⟩
 case inl=>
 have HV1:=aa h4
 clear h3 h4
 generalize hv1:v.go1 ts=v1 at *
 replace hv1:=aa hv1
 go_wp2_with fail
 refine(gU HV1.out).mono ?_
 rintro e w2 ⟨hk,hx⟩
 have HK2:=aa (HK1.out.trans hk.thr2)
 have HS2:=aa (HS1.out.kept hk (fun e=>by rcases e with e|e<;>contradiction))
 clear hk
 rcases hx with⟨h3,h4,rfl⟩|⟨h3,b,rfl,h4⟩
 case inr=>
  have HO:Hid ((v1.named ts false).ok=false∧an w2 b #[.int .i64 (v1.named ts false).e,.int .i64 (v1.named ts false).a]):=⟨h3,h4⟩
  clear h3 h4
  go_wp2_with fail
  have e:(V.list ts true ((v.go1 ts).named ts false)).2=v1.named ts false:=by rw[hv1.out,V.list_no HO.out.1]
  rw[e]
  exact⟨rfl,HK2.out,Or.inr ⟨HO.out.1,b,rfl,HO.out.2⟩⟩
 case inl=>
 have HV2:=aa h4
 have hz2:=HK2.out.size
 clear h3 h4
 go_wp2_with fail
 refine(vK HV2.out (v1.here ts) HS2.out h1 h2).mono ?_
 rintro e w3 ⟨hk,hx⟩
 have HK3:=aa (HK2.out.trans hk)
 clear hk
 rcases hx with⟨h3,h4,rfl,sr',h5,h6⟩|⟨h3,b,rfl,h4⟩
 case inr=>
  have HO:Hid ((V.list ts true (v1.named ts false)).2.ok=false∧an w3 b #[.int .i64 (V.list ts true (v1.named ts false)).2.e,.int .i64 (V.list ts true (v1.named ts false)).2.a]):=⟨h3,h4⟩
  clear h3 h4
  go_wp2_with fail
  rw[hv1.out]
  exact⟨rfl,HK3.out,Or.inr ⟨HO.out.1,b,rfl,HO.out.2⟩⟩
 case inl=>
 have H3:=aa h3
 have HV3:=aa h4
 have HS3:=aa h5
 have HO3:=aa (bz h6 hz2)
 have c2:w3.cell? ⟨bs,2,none⟩=some (.int .i64 11):=h5.cell 2
 have cf:=h5.fz
 clear h3 h4 h5 h6
 go_wp2_with fail
 go_end0
 rw[hv1.out]
 exact⟨HK3.out.thrS 2 _,Or.inl ⟨H3.out,HV3.out.setO bs 2 _ h1 h2,rfl,sr',HS3.out.pkind 7 7 rfl,aJ HO3.out _ _ hlb⟩⟩
end
end
section
set_option maxRecDepth 100000
set_option maxHeartbeats 4000000
open Go.RowKit
def oW(b:aj):Nat:=if b=[43]then 1 else if b=[45]then 2 else if b=[60]then 3 else if b=[61,61]then 4 else 0
theorem dR{w:World}{B e size n:Nat}{v:Value}{xs:List Value}(h:w.ownsRow B e size v n xs):w.drew.ownsRow B e size v n xs:=h
theorem ff{g n c k:Nat}(e:Value.ownBlock (.slice (some ⟨g,0,none⟩) n c)=some k):g=k:=by simpa[Value.ownBlock]using e
theorem en{P:Program}{ops:Array Oper}{o:Oper}{a:Act}{w:World}{K:Act→World→Prop}{Q:Exit→Act→World→Prop}{E:Prop}(hg:o.guard=none)(h:Oper.wp P o a w K Q):if Region.wanted o (yielded ops a.tmps)=true then Oper.wp P o a w K Q else E:=by
 have hw:Region.wanted o (yielded ops a.tmps)=true:=by simp[Region.wanted,hg]
 rw[if_pos hw]
 exact h
def lS(h:Hd):List aI:=if h.bin=[]then[]else[h.z]
abbrev eh(t:aI):Obj:=.cells #[.string ⟨(ki t).toArray⟩,.int .i64 (yH t),.int .i64 0,.int .i64 (pq t)] 193
section
variable {w:World} {br bw bs:Nat} {s:ByteArray} {ts:List aI} {v:V} {dep:Nat} {p:Ph} {sr sb:Value}
theorem ig.good{w w':World}{r:Ending}{R:Ending→World→Prop}(h:ig w w' br bw s ts v dep r R)(hok:v.ok=true):ae (eZ br bw) w w'∧RV w' br bw s ts v dep∧R r w':=by
 rcases h.2 with h2|h2
 ·exact⟨h.1,h2.2⟩
 ·rw[hok]at h2;exact absurd h2.1 (by decide)
theorem ig.bad{w w':World}{r:Ending}{R:Ending→World→Prop}(h:ig w w' br bw s ts v dep r R)(hok:v.ok=false):ae (eZ br bw) w w'∧cc w' r v.e v.a:=by
 rcases h.2 with h2|h2
 ·rw[hok]at h2;exact absurd h2.1 (by decide)
 ·exact⟨h.1,h2.2⟩
def fY:List aj:=dY++[[43],[45],[60],[61,61]]
theorem ji:([]:aj)∉fY:=by decide
def lL(p:UInt8→Bool):aj→Bool
 |[]=>false
 |d::_=>!p d
theorem kQ{p:UInt8→Bool}(l:aj)(i:Nat)(h:lL p (sub l i (bu p l i))=true):False:=by
 cases e:sub l i (bu p l i)with
 |nil=>rw[e]at h;cases h
 |cons d r=>
  rw[e]at h
  have:=oH (p:=p) l i d (by rw[e];simp)
  simp[lL,this]at h
theorem uA:∀t,t∈fY→lL cJ t=true:=by decide
theorem wD:∀t,t∈([[43],[45],[60],[61,61]]:List aj)→lL dG t=true:=by decide
theorem oj(l:aj)(i:Nat)(h:(el l i).text∈fY):(el l i).k=107∨(el l i).k=115:=by
 unfold el at h⊢
 cases hg:l[i]? with
 |none=>rw[hg]at h;exact absurd h ji
 |some c=>
  rw[hg]at h
  simp only at h⊢
  by_cases h1:cJ c=true
  ·exfalso
   by_cases h2:6< bu cJ l i
   ·simp only[h1,h2,if_true]at h;exact ji h
   ·simp only[h1,h2,if_true,if_false]at h
    exact kQ l i (uA _ h)
  ·simp only[h1,Bool.false_eq_true,if_false]at h⊢
   by_cases h3:dG c=true
   ·simp only[h3,if_true]at h⊢
    by_cases h2:6< bu dG l i
    ·simp only[h2,if_true]at h;exact absurd h ji
    ·simp only[h2,if_false]at h⊢
     by_cases h4:iz (sub l i (bu dG l i))=true
     ·simp[h4]
     ·exfalso
      simp only[h4,Bool.false_eq_true,if_false]at h
      unfold fY at h
      rcases List.mem_append.1 h with h|h
      ·exact h4 (oy _ h)
      ·exact kQ l i (wD _ h)
   ·simp only[h3,Bool.false_eq_true,if_false]at h⊢
    by_cases h5:fH c=true
    ·simp only[h5,if_true]at h⊢
     split<;>simp
    ·simp only[h5,Bool.false_eq_true,if_false]at h;exact absurd h ji
theorem RV.text_at(h:RV w br bw s ts v dep)(t:aj)(ht:t∈fY):v.at ts t=decide ((v.here ts).text=t):=by
 obtain⟨i,_,e⟩:=V.here_lex h.tk h.lt
 unfold V.at
 by_cases hx:(v.here ts).text=t
 ·have hk:=oj s.data.toList i (by rw[←e,hx];exact ht)
  rw[←e]at hk
  rcases hk with hk|hk<;>simp[hk,hx]
 ·simp[hx]
theorem AW(h:RV w br bw s ts v dep)(t:aI)(d:Hd)(hd:d.bin=[])(hS:an w bs (aK p sr sb))(h1:bs≠br)(h2:bs≠bw)(hs0:∃p1 n1 c1,sr=.slice p1 n1 c1)(hp:p.op=0):
  Calls Tryz.prog 208 #[.pointer (some ⟨br,0,none⟩),.pointer (some ⟨bs,0,none⟩),ef t] w fun r w'=>mV (eP br bw bs) w w' br bw s ts (Hd.sum ts d v).2 dep r (fun r w'=>r=.returned (.tuple #[])∧Au w' w.heap.size bs {p with kind:=1,op:=oW (Hd.sum ts d v).1.bin} (t::lS (Hd.sum ts d v).1) sb):=by
 obtain⟨i0,hi,hz0,hz1,hz2⟩:=info_parts jx
 obtain⟨p1,n1,c1,rfl⟩:=hs0
 have hlb:=hS.lt
 have c2:w.cell? ⟨bs,2,none⟩=some (.int .i64 p.kind):=hS.cell 2
 have c12:w.cell? ⟨bs,12,none⟩=some (.slice p1 n1 c1):=hS.cell 12
 have cf:=hS.fz
 obtain⟨wA,hwA⟩:∃wA,wA=(((w.setCell ⟨bs,2,none⟩ (.int .i64 1)).setCell ⟨bs,12,none⟩ (.slice (some ⟨w.heap.size+1,0,none⟩) 1 1)).alloc (eh t)).alloc (eh t):=⟨_,rfl⟩
 have HVA:Hid (RV wA br bw s ts v dep):=by
  show RV _ _ _ _ _ _ _
  rw[hwA]
  exact(((h.setO bs 2 _ h1 h2).setO bs 12 _ h1 h2).below ((Below.refl _ _).alloc (Nat.le_refl _) _)).below ((Below.refl _ _).alloc (Nat.le_refl _) _)
 have HSA:Hid (an wA bs (aK {p with kind:=1} (.slice (some ⟨w.heap.size+1,0,none⟩) 1 1) sb)):=by
  show an _ _ _
  rw[hwA]
  exact(((hS.pkind 1 1 rfl).pright _).alloc _).alloc _
 have HKA:Hid (ae (eP br bw bs) w wA):=by
  show ae _ _ _
  rw[hwA]
  exact((((ae.refl (eP br bw bs) w).thrS 2 _).thrS 12 _).alloc _).alloc _
 have HOA:Hid (wA.ownsRow w.heap.size 193 4 (.slice (some ⟨w.heap.size+1,0,none⟩) 1 1) 1 (db [t])):=by
  show World.ownsRow _ _ _ _ _ _ _
  rw[hwA]
  have:=jR (w:=(((w.setCell ⟨bs,2,none⟩ (.int .i64 1)).setCell ⟨bs,12,none⟩ (.slice (some ⟨w.heap.size+1,0,none⟩) 1 1)).alloc (eh t))) (B:=w.heap.size) (e:=193) (size:=4) #[.string ⟨(ki t).toArray⟩,.int .i64 (yH t),.int .i64 0,.int .i64 (pq t)] (db [t]) rfl rfl (by simp[World.setCell])
  simpa[World.setCell]using this
 have HTA:Hid (∀u,u∈fY→v.at ts u=decide ((v.here ts).text=u)):=fun u hu=>h.text_at u hu
 have HZ:=aa HKA.out.size
 have HBR:=h.rb.lt
 have HBW:=h.wb.lt
 have HTW:Hid (∀i,eZ br bw i→i< w.heap.size):=fun i e=>by rcases e with e|e<;>omega
 have HOP:Hid (de (v.here ts)=true→(v.here ts).text=[]):=fun hf=>by
  obtain⟨i,_,e⟩:=V.here_lex h.tk h.lt
  rw[e]at hf⊢
  exact kG _ _ hf
 have HD:=aa hd
 have HP0:=aa hp
 replace hwA:=aa hwA
 clear h hS hd hp
 unfold ef
 go_enter Tryz.func208,Tryz.ntmps208
 go_wp2_with fail
 rw[←hwA.out]
 clear hwA c2 c12 cf
 by_cases e43:(v.here ts).text=[43]
 ·have HE:=aa e43
  clear e43
  have HSUM:Hid (Hd.sum ts d v=({d with bin:=[43],z:=(v.go1 ts).here ts},(v.go1 ts).named ts true)):=by show _=_;unfold Hd.sum;rw[if_pos (by rw[HE.out];decide),HE.out]
  have hat:v.at ts [43]=true:=by rw[HTA.out _ (by decide)];exact decide_eq_true HE.out
  replace hat:=aa hat
  refine(aZ HVA.out ⟨#[43]⟩ hat.out).mono ?_
  rintro e w1 hO
  cases hok1:(v.go1 ts).ok
  ·obtain⟨hk,b,rfl,hb⟩:=hO.bad hok1
   have HO:Hid (ae (eP br bw bs) w w1∧(v.go1 ts).ok=false∧an w1 b #[.int .i64 (v.go1 ts).e,.int .i64 (v.go1 ts).a]):=⟨HKA.out.trans hk.thr2,hok1,hb⟩
   clear hk hb hO hok1
   go_wp2_with fail
   rw[HSUM.out]
   simp only[V.named_no HO.out.2.1]
   exact⟨rfl,HO.out.1,Or.inr ⟨HO.out.2.1,b,rfl,HO.out.2.2⟩⟩
  ·obtain⟨hk,hrv,rfl⟩:=hO.good hok1
   have HK1:=aa (HKA.out.trans hk.thr2)
   have HV1:=aa hrv
   have hS1:=HSA.out.kept hk (fun e=>by rcases e with e|e<;>contradiction)
   have HS1:=aa hS1
   have hO1:=aU HOA.out hk HTW.out
   have HO1:=aa hO1
   have c6:w1.cell? ⟨bs,6,none⟩=some (.int .i64 p.op):=hS1.cell 6
   have c12:w1.cell? ⟨bs,12,none⟩=some (.slice (some ⟨w.heap.size+1,0,none⟩) 1 1):=hS1.cell 12
   have cf:=hS1.fz
   have hzw1:=HK1.out.size
   clear hk hrv hO hok1 hS1 hO1
   generalize hv1:v.go1 ts=v1 at *
   replace hv1:=aa hv1
   have HV1b:=aa ((HV1.out.setO bs 6 (.int .i64 1) h1 h2).below ((Below.refl _ _).drew))
   have HS1b:=aa ((HS1.out.pop 1 1 rfl).below ((Below.refl _ _).drew))
   have HO1b:=aa (dR (aJ HO1.out 6 (.int .i64 1) hlb))
   have HK1b:=aa ((HK1.out.thrS 6 (.int .i64 1)).drew)
   clear HV1 HO1 HK1
   go_wp2_with fail
   go_region_law (first|(refine en rfl ?_;go_wp2_with fail;refine(iO HV1b.out).mono ?_;rintro e w2 hO;cases hok2:(v1.named ts true).ok;(focus(obtain⟨hk,b,rfl,hb⟩:=hO.bad hok2;replace hk:=aa hk;replace hb:=aa hb;replace hok2:=aa hok2;clear hO;go_wp2_with fail;rw[HSUM.out];exact⟨rfl,HK1b.out.trans hk.out.thr2,Or.inr ⟨hok2.out,b,rfl,hb.out⟩⟩));(obtain⟨hk,hrv,rfl⟩:=hO.good hok2;have HO2:=aa (aU HO1b.out hk HTW.out);have HS2:=aa (HS1b.out.kept hk (fun e=>by rcases e with e|e<;>contradiction));have c12b:w2.cell? ⟨bs,12,none⟩=some (.slice (some ⟨w.heap.size+1,0,none⟩) 1 1):=HS2.out.cell 12;have cfb:=HS2.out.fz;have hbs2:=HS2.out.lt;have hz2w:=hk.size;have HK2:=aa (HK1b.out.trans hk.thr2);replace hrv:=aa hrv;replace hok2:=aa hok2;clear hO hk;unfold ef))|(refine aA rfl (.tmp 42) (.tmp 45) 158 rfl w.heap.size 193 i0 (.agg #[.string ⟨#[]⟩,.int .i64 0,.int .i64 0,.int .i64 0]) 4 40 Tryz.underlying158 hi hz0 hz1 hz2 rfl (by decide) _ _ _ (by simp[Act.eval,Act.put]) (HO2.out.alloc _) ⟨w2.heap.size,0,none⟩ 1 1 (gC (v1.here ts)) (by simp[Act.eval,Act.put]) rfl (aF _ _ _ _ (by simp)) (ib _) (by decide) (by unfold maxLen;omega) (by omega) (by simp;simp[World.setCell]at hz2w;omega) ?_;intro l3 w3 hown3 hgrow3 _;obtain⟨p3,c3,rfl⟩:=ai hown3;have hk3:=ae.grown ((ae.refl (fun k=>Value.ownBlock (.slice (some ⟨w.heap.size+1,0,none⟩) 1 1)=some k) w2).alloc _) hgrow3 (fun k hk=>Or.inl hk);have HS3:=aa (HS2.out.kept hk3 (fun e=>by have:=ff e;omega));have HV3:=aa (hrv.out.kept hk3 (fun e=>by have:=ff e;omega) (fun e=>by have:=ff e;omega));have HK3:=aa (HK2.out.trans' hk3 (fun i e=>Or.inr (by have:=ff e;omega)));have c12c:w3.cell? ⟨bs,12,none⟩=some (.slice (some ⟨w.heap.size+1,0,none⟩) 1 1):=HS3.out.cell 12;have cfc:=HS3.out.fz;replace hown3:=aa hown3;clear hk3 hgrow3))
   all_goals
    go_wp2_with fail
    first|go_end0|refine bodyPost_ret (results_none rfl _ _ _) rfl ?_
    rw[HSUM.out]
    refine⟨HK3.out.thrS 12 _,Or.inl ⟨hok2.out,HV3.out.setO bs 12 _ h1 h2,rfl,_,HS3.out.pright _,?_⟩⟩
    exact aJ hown3.out _ _ hlb
 ·have NE43:=aa e43
  clear e43
  refine(bU HVA.out ⟨#[43]⟩ (by show v.at ts [43]=false;rw[HTA.out _ (by decide)];exact decide_eq_false NE43.out)).mono ?_
  rintro e wq ⟨rfl,hq⟩
  subst wq
  go_wp2_with fail
  by_cases e45:(v.here ts).text=[45]
  ·have HE:=aa e45
   clear e45
   have HSUM:Hid (Hd.sum ts d v=({d with bin:=[45],z:=(v.go1 ts).here ts},(v.go1 ts).named ts true)):=by show _=_;unfold Hd.sum;rw[if_pos (by rw[HE.out];decide),HE.out]
   have hat:v.at ts [45]=true:=by rw[HTA.out _ (by decide)];exact decide_eq_true HE.out
   replace hat:=aa hat
   refine(aZ HVA.out ⟨#[45]⟩ hat.out).mono ?_
   rintro e w1 hO
   cases hok1:(v.go1 ts).ok
   ·obtain⟨hk,b,rfl,hb⟩:=hO.bad hok1
    have HO:Hid (ae (eP br bw bs) w w1∧(v.go1 ts).ok=false∧an w1 b #[.int .i64 (v.go1 ts).e,.int .i64 (v.go1 ts).a]):=⟨HKA.out.trans hk.thr2,hok1,hb⟩
    clear hk hb hO hok1
    go_wp2_with fail
    rw[HSUM.out]
    simp only[V.named_no HO.out.2.1]
    exact⟨rfl,HO.out.1,Or.inr ⟨HO.out.2.1,b,rfl,HO.out.2.2⟩⟩
   ·obtain⟨hk,hrv,rfl⟩:=hO.good hok1
    have HK1:=aa (HKA.out.trans hk.thr2)
    have HV1:=aa hrv
    have hS1:=HSA.out.kept hk (fun e=>by rcases e with e|e<;>contradiction)
    have HS1:=aa hS1
    have hO1:=aU HOA.out hk HTW.out
    have HO1:=aa hO1
    have c6:w1.cell? ⟨bs,6,none⟩=some (.int .i64 p.op):=hS1.cell 6
    have c12:w1.cell? ⟨bs,12,none⟩=some (.slice (some ⟨w.heap.size+1,0,none⟩) 1 1):=hS1.cell 12
    have cf:=hS1.fz
    have hzw1:=HK1.out.size
    clear hk hrv hO hok1 hS1 hO1
    generalize hv1:v.go1 ts=v1 at *
    replace hv1:=aa hv1
    have HV1b:=aa ((HV1.out.setO bs 6 (.int .i64 2) h1 h2).below ((Below.refl _ _).drew))
    have HS1b:=aa ((HS1.out.pop 2 2 rfl).below ((Below.refl _ _).drew))
    have HO1b:=aa (dR (aJ HO1.out 6 (.int .i64 2) hlb))
    have HK1b:=aa ((HK1.out.thrS 6 (.int .i64 2)).drew)
    clear HV1 HO1 HK1
    go_wp2_with fail
    go_region_law (first|(refine en rfl ?_;go_wp2_with fail;refine(iO HV1b.out).mono ?_;rintro e w2 hO;cases hok2:(v1.named ts true).ok;(focus(obtain⟨hk,b,rfl,hb⟩:=hO.bad hok2;replace hk:=aa hk;replace hb:=aa hb;replace hok2:=aa hok2;clear hO;go_wp2_with fail;rw[HSUM.out];exact⟨rfl,HK1b.out.trans hk.out.thr2,Or.inr ⟨hok2.out,b,rfl,hb.out⟩⟩));(obtain⟨hk,hrv,rfl⟩:=hO.good hok2;have HO2:=aa (aU HO1b.out hk HTW.out);have HS2:=aa (HS1b.out.kept hk (fun e=>by rcases e with e|e<;>contradiction));have c12b:w2.cell? ⟨bs,12,none⟩=some (.slice (some ⟨w.heap.size+1,0,none⟩) 1 1):=HS2.out.cell 12;have cfb:=HS2.out.fz;have hbs2:=HS2.out.lt;have hz2w:=hk.size;have HK2:=aa (HK1b.out.trans hk.thr2);replace hrv:=aa hrv;replace hok2:=aa hok2;clear hO hk;unfold ef))|(refine aA rfl (.tmp 42) (.tmp 45) 158 rfl w.heap.size 193 i0 (.agg #[.string ⟨#[]⟩,.int .i64 0,.int .i64 0,.int .i64 0]) 4 40 Tryz.underlying158 hi hz0 hz1 hz2 rfl (by decide) _ _ _ (by simp[Act.eval,Act.put]) (HO2.out.alloc _) ⟨w2.heap.size,0,none⟩ 1 1 (gC (v1.here ts)) (by simp[Act.eval,Act.put]) rfl (aF _ _ _ _ (by simp)) (ib _) (by decide) (by unfold maxLen;omega) (by omega) (by simp;simp[World.setCell]at hz2w;omega) ?_;intro l3 w3 hown3 hgrow3 _;obtain⟨p3,c3,rfl⟩:=ai hown3;have hk3:=ae.grown ((ae.refl (fun k=>Value.ownBlock (.slice (some ⟨w.heap.size+1,0,none⟩) 1 1)=some k) w2).alloc _) hgrow3 (fun k hk=>Or.inl hk);have HS3:=aa (HS2.out.kept hk3 (fun e=>by have:=ff e;omega));have HV3:=aa (hrv.out.kept hk3 (fun e=>by have:=ff e;omega) (fun e=>by have:=ff e;omega));have HK3:=aa (HK2.out.trans' hk3 (fun i e=>Or.inr (by have:=ff e;omega)));have c12c:w3.cell? ⟨bs,12,none⟩=some (.slice (some ⟨w.heap.size+1,0,none⟩) 1 1):=HS3.out.cell 12;have cfc:=HS3.out.fz;replace hown3:=aa hown3;clear hk3 hgrow3))
    all_goals
     go_wp2_with fail
     first|go_end0|refine bodyPost_ret (results_none rfl _ _ _) rfl ?_
     rw[HSUM.out]
     refine⟨HK3.out.thrS 12 _,Or.inl ⟨hok2.out,HV3.out.setO bs 12 _ h1 h2,rfl,_,HS3.out.pright _,?_⟩⟩
     exact aJ hown3.out _ _ hlb
  ·have NE45:=aa e45
   clear e45
   refine(bU HVA.out ⟨#[45]⟩ (by show v.at ts [45]=false;rw[HTA.out _ (by decide)];exact decide_eq_false NE45.out)).mono ?_
   rintro e wq ⟨rfl,hq⟩
   subst wq
   go_wp2_with fail
   by_cases e60:(v.here ts).text=[60]
   ·have HE:=aa e60
    clear e60
    have HSUM:Hid (Hd.sum ts d v=({d with bin:=[60],z:=(v.go1 ts).here ts},(v.go1 ts).named ts true)):=by show _=_;unfold Hd.sum;rw[if_pos (by rw[HE.out];decide),HE.out]
    have hat:v.at ts [60]=true:=by rw[HTA.out _ (by decide)];exact decide_eq_true HE.out
    replace hat:=aa hat
    refine(aZ HVA.out ⟨#[60]⟩ hat.out).mono ?_
    rintro e w1 hO
    cases hok1:(v.go1 ts).ok
    ·obtain⟨hk,b,rfl,hb⟩:=hO.bad hok1
     have HO:Hid (ae (eP br bw bs) w w1∧(v.go1 ts).ok=false∧an w1 b #[.int .i64 (v.go1 ts).e,.int .i64 (v.go1 ts).a]):=⟨HKA.out.trans hk.thr2,hok1,hb⟩
     clear hk hb hO hok1
     go_wp2_with fail
     rw[HSUM.out]
     simp only[V.named_no HO.out.2.1]
     exact⟨rfl,HO.out.1,Or.inr ⟨HO.out.2.1,b,rfl,HO.out.2.2⟩⟩
    ·obtain⟨hk,hrv,rfl⟩:=hO.good hok1
     have HK1:=aa (HKA.out.trans hk.thr2)
     have HV1:=aa hrv
     have hS1:=HSA.out.kept hk (fun e=>by rcases e with e|e<;>contradiction)
     have HS1:=aa hS1
     have hO1:=aU HOA.out hk HTW.out
     have HO1:=aa hO1
     have c6:w1.cell? ⟨bs,6,none⟩=some (.int .i64 p.op):=hS1.cell 6
     have c12:w1.cell? ⟨bs,12,none⟩=some (.slice (some ⟨w.heap.size+1,0,none⟩) 1 1):=hS1.cell 12
     have cf:=hS1.fz
     have hzw1:=HK1.out.size
     clear hk hrv hO hok1 hS1 hO1
     generalize hv1:v.go1 ts=v1 at *
     replace hv1:=aa hv1
     have HV1b:=aa ((HV1.out.setO bs 6 (.int .i64 3) h1 h2).below ((Below.refl _ _).drew))
     have HS1b:=aa ((HS1.out.pop 3 3 rfl).below ((Below.refl _ _).drew))
     have HO1b:=aa (dR (aJ HO1.out 6 (.int .i64 3) hlb))
     have HK1b:=aa ((HK1.out.thrS 6 (.int .i64 3)).drew)
     clear HV1 HO1 HK1
     go_wp2_with fail
     go_region_law (first|(refine en rfl ?_;go_wp2_with fail;refine(iO HV1b.out).mono ?_;rintro e w2 hO;cases hok2:(v1.named ts true).ok;(focus(obtain⟨hk,b,rfl,hb⟩:=hO.bad hok2;replace hk:=aa hk;replace hb:=aa hb;replace hok2:=aa hok2;clear hO;go_wp2_with fail;rw[HSUM.out];exact⟨rfl,HK1b.out.trans hk.out.thr2,Or.inr ⟨hok2.out,b,rfl,hb.out⟩⟩));(obtain⟨hk,hrv,rfl⟩:=hO.good hok2;have HO2:=aa (aU HO1b.out hk HTW.out);have HS2:=aa (HS1b.out.kept hk (fun e=>by rcases e with e|e<;>contradiction));have c12b:w2.cell? ⟨bs,12,none⟩=some (.slice (some ⟨w.heap.size+1,0,none⟩) 1 1):=HS2.out.cell 12;have cfb:=HS2.out.fz;have hbs2:=HS2.out.lt;have hz2w:=hk.size;have HK2:=aa (HK1b.out.trans hk.thr2);replace hrv:=aa hrv;replace hok2:=aa hok2;clear hO hk;unfold ef))|(refine aA rfl (.tmp 42) (.tmp 45) 158 rfl w.heap.size 193 i0 (.agg #[.string ⟨#[]⟩,.int .i64 0,.int .i64 0,.int .i64 0]) 4 40 Tryz.underlying158 hi hz0 hz1 hz2 rfl (by decide) _ _ _ (by simp[Act.eval,Act.put]) (HO2.out.alloc _) ⟨w2.heap.size,0,none⟩ 1 1 (gC (v1.here ts)) (by simp[Act.eval,Act.put]) rfl (aF _ _ _ _ (by simp)) (ib _) (by decide) (by unfold maxLen;omega) (by omega) (by simp;simp[World.setCell]at hz2w;omega) ?_;intro l3 w3 hown3 hgrow3 _;obtain⟨p3,c3,rfl⟩:=ai hown3;have hk3:=ae.grown ((ae.refl (fun k=>Value.ownBlock (.slice (some ⟨w.heap.size+1,0,none⟩) 1 1)=some k) w2).alloc _) hgrow3 (fun k hk=>Or.inl hk);have HS3:=aa (HS2.out.kept hk3 (fun e=>by have:=ff e;omega));have HV3:=aa (hrv.out.kept hk3 (fun e=>by have:=ff e;omega) (fun e=>by have:=ff e;omega));have HK3:=aa (HK2.out.trans' hk3 (fun i e=>Or.inr (by have:=ff e;omega)));have c12c:w3.cell? ⟨bs,12,none⟩=some (.slice (some ⟨w.heap.size+1,0,none⟩) 1 1):=HS3.out.cell 12;have cfc:=HS3.out.fz;replace hown3:=aa hown3;clear hk3 hgrow3))
     all_goals
      go_wp2_with fail
      first|go_end0|refine bodyPost_ret (results_none rfl _ _ _) rfl ?_
      rw[HSUM.out]
      refine⟨HK3.out.thrS 12 _,Or.inl ⟨hok2.out,HV3.out.setO bs 12 _ h1 h2,rfl,_,HS3.out.pright _,?_⟩⟩
      exact aJ hown3.out _ _ hlb
   ·have NE60:=aa e60
    clear e60
    refine(bU HVA.out ⟨#[60]⟩ (by show v.at ts [60]=false;rw[HTA.out _ (by decide)];exact decide_eq_false NE60.out)).mono ?_
    rintro e wq ⟨rfl,hq⟩
    subst wq
    go_wp2_with fail
    by_cases e61:(v.here ts).text=[61,61]
    ·have HE:=aa e61
     clear e61
     have HSUM:Hid (Hd.sum ts d v=({d with bin:=[61,61],z:=(v.go1 ts).here ts},(v.go1 ts).named ts true)):=by show _=_;unfold Hd.sum;rw[if_pos (by rw[HE.out];decide),HE.out]
     have hat:v.at ts [61,61]=true:=by rw[HTA.out _ (by decide)];exact decide_eq_true HE.out
     replace hat:=aa hat
     refine(aZ HVA.out ⟨#[61,61]⟩ hat.out).mono ?_
     rintro e w1 hO
     cases hok1:(v.go1 ts).ok
     ·obtain⟨hk,b,rfl,hb⟩:=hO.bad hok1
      have HO:Hid (ae (eP br bw bs) w w1∧(v.go1 ts).ok=false∧an w1 b #[.int .i64 (v.go1 ts).e,.int .i64 (v.go1 ts).a]):=⟨HKA.out.trans hk.thr2,hok1,hb⟩
      clear hk hb hO hok1
      go_wp2_with fail
      rw[HSUM.out]
      simp only[V.named_no HO.out.2.1]
      exact⟨rfl,HO.out.1,Or.inr ⟨HO.out.2.1,b,rfl,HO.out.2.2⟩⟩
     ·obtain⟨hk,hrv,rfl⟩:=hO.good hok1
      have HK1:=aa (HKA.out.trans hk.thr2)
      have HV1:=aa hrv
      have hS1:=HSA.out.kept hk (fun e=>by rcases e with e|e<;>contradiction)
      have HS1:=aa hS1
      have hO1:=aU HOA.out hk HTW.out
      have HO1:=aa hO1
      have c6:w1.cell? ⟨bs,6,none⟩=some (.int .i64 p.op):=hS1.cell 6
      have c12:w1.cell? ⟨bs,12,none⟩=some (.slice (some ⟨w.heap.size+1,0,none⟩) 1 1):=hS1.cell 12
      have cf:=hS1.fz
      have hzw1:=HK1.out.size
      clear hk hrv hO hok1 hS1 hO1
      generalize hv1:v.go1 ts=v1 at *
      replace hv1:=aa hv1
      have HV1b:=aa ((HV1.out.setO bs 6 (.int .i64 4) h1 h2).below ((Below.refl _ _).drew))
      have HS1b:=aa ((HS1.out.pop 4 4 rfl).below ((Below.refl _ _).drew))
      have HO1b:=aa (dR (aJ HO1.out 6 (.int .i64 4) hlb))
      have HK1b:=aa ((HK1.out.thrS 6 (.int .i64 4)).drew)
      clear HV1 HO1 HK1
      go_wp2_with fail
      go_region_law (first|(refine en rfl ?_;go_wp2_with fail;refine(iO HV1b.out).mono ?_;rintro e w2 hO;cases hok2:(v1.named ts true).ok;(focus(obtain⟨hk,b,rfl,hb⟩:=hO.bad hok2;replace hk:=aa hk;replace hb:=aa hb;replace hok2:=aa hok2;clear hO;go_wp2_with fail;rw[HSUM.out];exact⟨rfl,HK1b.out.trans hk.out.thr2,Or.inr ⟨hok2.out,b,rfl,hb.out⟩⟩));(obtain⟨hk,hrv,rfl⟩:=hO.good hok2;have HO2:=aa (aU HO1b.out hk HTW.out);have HS2:=aa (HS1b.out.kept hk (fun e=>by rcases e with e|e<;>contradiction));have c12b:w2.cell? ⟨bs,12,none⟩=some (.slice (some ⟨w.heap.size+1,0,none⟩) 1 1):=HS2.out.cell 12;have cfb:=HS2.out.fz;have hbs2:=HS2.out.lt;have hz2w:=hk.size;have HK2:=aa (HK1b.out.trans hk.thr2);replace hrv:=aa hrv;replace hok2:=aa hok2;clear hO hk;unfold ef))|(refine aA rfl (.tmp 42) (.tmp 45) 158 rfl w.heap.size 193 i0 (.agg #[.string ⟨#[]⟩,.int .i64 0,.int .i64 0,.int .i64 0]) 4 40 Tryz.underlying158 hi hz0 hz1 hz2 rfl (by decide) _ _ _ (by simp[Act.eval,Act.put]) (HO2.out.alloc _) ⟨w2.heap.size,0,none⟩ 1 1 (gC (v1.here ts)) (by simp[Act.eval,Act.put]) rfl (aF _ _ _ _ (by simp)) (ib _) (by decide) (by unfold maxLen;omega) (by omega) (by simp;simp[World.setCell]at hz2w;omega) ?_;intro l3 w3 hown3 hgrow3 _;obtain⟨p3,c3,rfl⟩:=ai hown3;have hk3:=ae.grown ((ae.refl (fun k=>Value.ownBlock (.slice (some ⟨w.heap.size+1,0,none⟩) 1 1)=some k) w2).alloc _) hgrow3 (fun k hk=>Or.inl hk);have HS3:=aa (HS2.out.kept hk3 (fun e=>by have:=ff e;omega));have HV3:=aa (hrv.out.kept hk3 (fun e=>by have:=ff e;omega) (fun e=>by have:=ff e;omega));have HK3:=aa (HK2.out.trans' hk3 (fun i e=>Or.inr (by have:=ff e;omega)));have c12c:w3.cell? ⟨bs,12,none⟩=some (.slice (some ⟨w.heap.size+1,0,none⟩) 1 1):=HS3.out.cell 12;have cfc:=HS3.out.fz;replace hown3:=aa hown3;clear hk3 hgrow3))
      all_goals
       go_wp2_with fail
       first|go_end0|refine bodyPost_ret (results_none rfl _ _ _) rfl ?_
       rw[HSUM.out]
       refine⟨HK3.out.thrS 12 _,Or.inl ⟨hok2.out,HV3.out.setO bs 12 _ h1 h2,rfl,_,HS3.out.pright _,?_⟩⟩
       exact aJ hown3.out _ _ hlb
    ·have NE61:=aa e61
     clear e61
     refine(bU HVA.out ⟨#[61,61]⟩ (by show v.at ts [61,61]=false;rw[HTA.out _ (by decide)];exact decide_eq_false NE61.out)).mono ?_
     rintro e wq ⟨rfl,hq⟩
     subst wq
     go_wp2_with fail
     have HSUM:Hid (Hd.sum ts d v=(d,v)):=by show _=_;unfold Hd.sum;rw[if_neg (fun e=>by rcases e with e|e|e|e;exact NE43.out e;exact NE45.out e;exact NE60.out e;exact NE61.out e)]
     first|go_end0|refine bodyPost_ret (results_none rfl _ _ _) rfl ?_
     rw[HSUM.out]
     refine⟨HKA.out,Or.inl ⟨HVA.out.ok,HVA.out,rfl,.slice (some ⟨w.heap.size+1,0,none⟩) 1 1,?_,?_⟩⟩
     ·have e:oW d.bin=p.op:=by rw[HD.out,HP0.out];rfl
      rw[e];exact HSA.out
     ·have e:lS d=[]:=by unfold lS;rw[HD.out];rfl
      rw[e];exact HOA.out
end
end
end Go.Proofs.YtmdaflepdaiabaaGreatDoor
