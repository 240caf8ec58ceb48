import Derived.Defers
import Derived.Recover
import Derived.Maps.OwnSet
import Derived.Test.YtmdaflepdaiabaaGreatDoorQ04
set_option linter.unusedSimpArgs false
set_option linter.unusedVariables false
namespace Go.Proofs.YtmdaflepdaiabaaGreatDoor
section
set_option maxRecDepth 100000
set_option maxHeartbeats 4000000
open Go.RowKit
theorem rO(ts:List aI)(f:Nat):ja ts f:=by
 induction f using Nat.strongRecOn with
 |_ f ih=>exact zG (fun g hg=>AX (ih g hg))
structure Pn where
 text:aj
 at_:Nat
 num:Nat
def xv(t:aI):Pn:=⟨t.text,t.at_,0⟩
def Aw(a:Pn):List Value:=[.string ⟨a.text.toArray⟩,.int .i64 a.at_,.int .i64 a.num]
def jm(l:List Pn):List Value:=l.flatMap Aw
theorem xH(l:List aI):jm (l.map xv)=eX l:=by
 induction l with
 |nil=>rfl
 |cons a l ih=>simp only[jm,eX,List.map_cons,List.flatMap_cons]at ih⊢;rw[ih];rfl
structure Pd where
 kind:Nat:=0
 name:aj:=[]
 at_:Nat:=0
 num:Nat:=0
 params:List Pn:=[]
 body:List dx:=[]
 locals:Nat:=0
def ke(p:Pd)(sp sb:Value):Array Value:=#[.int .i64 p.kind,.string ⟨p.name.toArray⟩,.int .i64 p.at_,.int .i64 p.num,sp,sb,.int .i64 p.locals]
def Bj(k:Nat):Nat:=if k=118 then 0 else if k=109 then 1 else 2
def ik(d:sZ):Pd:={kind:=Bj d.kind,name:=d.name.text,at_:=d.name.at_,params:=d.params.map xv,body:=cP d.body}
def iG(w:World)(P:Nat→Prop)(b:Nat)(p:Pd):Prop:=∃sp sb bb,∃Q:Nat→Prop,P b∧an w b (ke p sp sb)∧cA w P 96 3 sp p.params.length (jm p.params)∧cA w P 133 1 sb bb.length (dW bb)∧bB w Q bb p.body∧zb P Q b sp sb
theorem iG.keep{w w':World}{P P' S:Nat→Prop}(k:ae S w w')(h0:∀b,P b→b< w.heap.size∧¬S b∧P' b){b:Nat}{p:Pd}(h:iG w P b p):iG w' P' b p:=by
 obtain⟨sp,sb,bb,Q,h1,h2,h3,h4,h5,h6⟩:=h
 exact⟨sp,sb,bb,Q,(h0 b h1).2.2,h2.kept k (h0 b h1).2.1,h3.keep k h0,h4.keep k h0,h5.keep k (fun i hi=>⟨(h0 i (h6.q i hi).1).1,(h0 i (h6.q i hi).1).2.1,hi⟩),h6.mono (fun i hi=>(h0 i hi).2.2)⟩
def dA(ts:List aI)(pv:PV):sZ×PV:=
 if(pv.v.here ts).text=[118,97,114]then(⟨118,(pv.v.go1 ts).here ts,[],[]⟩,⟨((pv.v.go1 ts).named ts false).must ts [59],pv.ats⟩)
 else if(pv.v.here ts).text=[109,117,116,101,120]then(⟨109,(pv.v.go1 ts).here ts,[],[]⟩,⟨((pv.v.go1 ts).named ts false).must ts [59],pv.ats⟩)
 else if(pv.v.here ts).text=[102,117,110,99]then(⟨102,(pv.v.go1 ts).here ts,(V.list ts false ((pv.v.go1 ts).named ts false)).1,(mF ts pv).1⟩,(mF ts pv).2)
 else(⟨0,⟨0,[],0,0⟩,[],[]⟩,⟨pv.v.flt 5 (pv.v.here ts).at_,pv.ats⟩)
theorem wG(ts:List aI)(s:List sZ×PV)(h:(dA ts s.2).2.v.ok=true)(hok:s.2.v.ok=true):dU ts s=(s.1++[(dA ts s.2).1],(dA ts s.2).2):=by
 unfold dA at h⊢
 unfold dU
 by_cases e1:(s.2.v.here ts).text=[118,97,114]
 ·simp[e1]
 by_cases e2:(s.2.v.here ts).text=[109,117,116,101,120]
 ·simp[e2]
 by_cases e3:(s.2.v.here ts).text=[102,117,110,99]
 ·simp[e3]
 ·simp only[e1,e2,e3,if_false]at h
  rw[(V.flt_yes hok 5 _ (by decide)).1]at h
  cases h
theorem yy(ts:List aI)(s:List sZ×PV):(dU ts s).2=(dA ts s.2).2:=by
 unfold dA dU
 repeat' split
 all_goals rfl
theorem pz:(Tryz.prog.info? 84).map (fun i=>(i.zero,i.size,i.bytes))=some (some (.pointer none),1,8):=by kernel_rfl
theorem Ba{w:World}{br bw:Nat}{s:ByteArray}{ts:List aI}{pv:PV}(h:RV w br bw s ts pv.v 0)(hg:dT pv):
  Calls Tryz.prog 27 #[.pointer (some ⟨br,0,none⟩)] w fun r w'=>ig w w' br bw s ts (dA ts pv).2.v 0 r (fun r w'=>∃bd,r=.returned (ak bd)∧iG w' (cV w w') bd (ik (dA ts pv).1)):=by
 have HV:=aa h
 have hbr:=h.rb.lt
 have hbw:=h.wb.lt
 have HT:=aa h.tk
 have HTA:Hid (∀u,u∈fY→pv.v.at ts u=decide ((pv.v.here ts).text=u)):=fun u hu=>h.text_at u hu
 have HG:=aa hg
 have h1:w.heap.size≠br:=by omega
 have h2:w.heap.size≠bw:=by omega
 have HNT:Hid (¬eZ br bw w.heap.size):=fun e=>by rcases e with e|e<;>contradiction
 obtain⟨wA,hwA⟩:∃x,x=w.alloc (.cells (ke {} aN aN) 99):=⟨_,rfl⟩
 have HVA:Hid (RV wA br bw s ts pv.v 0):=by show RV _ _ _ _ _ _ _;rw[hwA];exact h.below ((Below.refl _ _).alloc (Nat.le_refl _) _)
 have HSA:Hid (an wA w.heap.size (ke {} aN aN)):=by show an _ _ _;rw[hwA];exact an.new _ _ _
 have HKA:Hid (ae (eZ br bw) w wA):=by show ae _ _ _;rw[hwA];exact(ae.refl _ _).alloc _
 have HZA:Hid (wA.heap.size=w.heap.size+1):=by show _=_;rw[hwA];simp
 have HKT:Hid (∀w',ae (eP br bw w.heap.size) wA w'→ae (eZ br bw) w w'):=fun w' k=>HKA.out.trans' k (fun i e=>by rcases e with e|e;exact Or.inl e;exact Or.inr (by omega))
 replace hwA:=aa hwA
 clear h hg
 go_enter Tryz.func27,Tryz.ntmps27
 go_wp2_with fail
 show Calls _ _ _ (w.alloc (.cells (ke {} aN aN) 99)) _
 rw[←hwA.out]
 clear hwA
 by_cases evar:(pv.v.here ts).text=[118,97,114]
 case pos=>
  have HE:=aa evar
  have hat:pv.v.at ts [118,97,114]=true:=by rw[HTA.out _ (by decide)];exact decide_eq_true evar
  have HOP:=aa (V.at_open hat)
  have HAT:=aa hat
  clear evar hat
  have HADV:=aa (cK.go1 HT.out HV.out.lt HOP.out)
  have HFIN:Hid (dA ts pv=(⟨118,(pv.v.go1 ts).here ts,[],[]⟩,⟨((pv.v.go1 ts).named ts false).must ts [59],pv.ats⟩)):=by show _=_;unfold dA;rw[HE.out];rfl
  have HK0:Hid (ae (eP br bw w.heap.size) wA wA):=ae.refl _ _
  have HS0:=HSA
  refine(aZ HVA.out ⟨#[118,97,114]⟩ HAT.out).mono ?_
  rintro e w1 ⟨hk,hx⟩
  have HK1:Hid (ae (eP br bw w.heap.size) wA w1):=HK0.out.trans hk.thr2
  have HS1:=aa (HS0.out.kept hk HNT.out)
  clear hk
  rcases hx with⟨h3,h4,rfl⟩|⟨h3,b,rfl,h4⟩
  case inr=>
   have HO:Hid ((pv.v.go1 ts).ok=false∧an w1 b #[.int .i64 (pv.v.go1 ts).e,.int .i64 (pv.v.go1 ts).a]):=⟨h3,h4⟩
   clear h3 h4
   go_wp2_with fail
   rw[HFIN.out]
   simp only[V.named_no HO.out.1,V.must_no HO.out.1]
   exact⟨rfl,HKT.out _ HK1.out,Or.inr ⟨HO.out.1,b,rfl,HO.out.2⟩⟩
  case inl=>
  have HV1:=aa h4
  have HB1:=aa h3
  clear h3 h4
  have c0:w1.cell? ⟨w.heap.size,0,none⟩=some (.int .i64 0):=HS1.out.cell 0
  have cf:=HS1.out.fz
  go_wp2_with fail
  clear c0 cf
  have HV2:=aa (HV1.out.setO w.heap.size 0 (.int .i64 0) h1 h2)
  have HS2:Hid (an (w1.setCell ⟨w.heap.size,0,none⟩ (.int .i64 0)) w.heap.size (ke {kind:=0} aN aN)):=HS1.out.set 0 _ (show 0< 7 by decide)
  have HK2:=aa (HK1.out.thrS 0 (.int .i64 0))
  generalize hv1:pv.v.go1 ts=v1 at *
  replace hv1:=aa hv1
  refine(gU HV2.out).mono ?_
  rintro e w3 ⟨hk,hx⟩
  have HK3:Hid (ae (eP br bw w.heap.size) wA w3):=HK2.out.trans hk.thr2
  have HS3:=aa (HS2.out.kept hk HNT.out)
  clear hk
  rcases hx with⟨h3,h4,rfl⟩|⟨h3,b,rfl,h4⟩
  case inr=>
   have HO:Hid ((v1.named ts false).ok=false∧an w3 b #[.int .i64 (v1.named ts false).e,.int .i64 (v1.named ts false).a]):=⟨h3,h4⟩
   clear h3 h4
   go_wp2_with fail
   rw[HFIN.out]
   simp only[V.must_no HO.out.1]
   exact⟨rfl,HKT.out _ HK3.out,Or.inr ⟨HO.out.1,b,rfl,HO.out.2⟩⟩
  case inl=>
  have HV3:=aa h4
  have HB3:=aa h3
  clear h3 h4
  have c1:w3.cell? ⟨w.heap.size,1,none⟩=some (.string ⟨#[]⟩):=HS3.out.cell 1
  have c2:w3.cell? ⟨w.heap.size,2,none⟩=some (.int .i64 0):=HS3.out.cell 2
  have c3:w3.cell? ⟨w.heap.size,3,none⟩=some (.int .i64 0):=HS3.out.cell 3
  have c0:w3.cell? ⟨w.heap.size,0,none⟩=some (.int .i64 0):=HS3.out.cell 0
  have cf:=HS3.out.fz
  unfold eW
  go_wp2_with fail
  clear c0 c1 c2 c3 cf
  have HV4:=aa (((HV3.out.setO w.heap.size 1 (.string ⟨(v1.here ts).text.toArray⟩) h1 h2).setO w.heap.size 2 (.int .i64 (v1.here ts).at_) h1 h2).setO w.heap.size 3 (.int .i64 0) h1 h2)
  have HS4:Hid (an (((w3.setCell ⟨w.heap.size,1,none⟩ (.string ⟨(v1.here ts).text.toArray⟩)).setCell ⟨w.heap.size,2,none⟩ (.int .i64 (v1.here ts).at_)).setCell ⟨w.heap.size,3,none⟩ (.int .i64 0)) w.heap.size (ke {kind:=0,name:=(v1.here ts).text,at_:=(v1.here ts).at_} aN aN)):=((HS3.out.set 1 _ (show 1< 7 by decide)).set 2 _ (show 2< 7 by decide)).set 3 _ (show 3< 7 by decide)
  have HK4:=aa (((HK3.out.thrS 1 (.string ⟨(v1.here ts).text.toArray⟩)).thrS 2 (.int .i64 (v1.here ts).at_)).thrS 3 (.int .i64 0))
  generalize hu4:v1.named ts false=u4 at *
  clear hu4
  refine(fk HV4.out ⟨#[59]⟩).mono ?_
  rintro e w5 ⟨hk,hx⟩
  have HK5:Hid (ae (eP br bw w.heap.size) wA w5):=HK4.out.trans hk.thr2
  have HS5:=aa (HS4.out.kept hk HNT.out)
  clear hk
  rcases hx with⟨h3,h4,rfl⟩|⟨h3,b,rfl,h4⟩
  case inr=>
   have HO:Hid ((u4.must ts [59]).ok=false∧an w5 b #[.int .i64 (u4.must ts [59]).e,.int .i64 (u4.must ts [59]).a]):=⟨h3,h4⟩
   clear h3 h4
   go_wp2_with fail
   rw[HFIN.out]
   exact⟨rfl,HKT.out _ HK5.out,Or.inr ⟨HO.out.1,b,rfl,HO.out.2⟩⟩
  case inl=>
  have HV5:=aa h4
  have HB5:=aa h3
  clear h3 h4
  have hz5:=HS5.out.lt
  go_wp2_with fail
  go_ret
  rw[HFIN.out]
  exact⟨HKT.out _ HK5.out,Or.inl ⟨HB5.out,HV5.out,w.heap.size,rfl,aN,aN,[],fun _=>False,⟨Nat.le_refl _,hz5⟩,HS5.out,cA.none _ _ _ _,cA.none _ _ _ _,by show bB _ _ _ (cP []);rw[cP];exact bB.nil,fun _ e=>e.elim,fun e=>(by cases e),fun e=>(by cases e),fun _ _ e=>(by cases e)⟩⟩
 case neg=>
 have NEvar:=aa evar
 have NAvar:Hid (pv.v.at ts [118,97,114]=false):=by show _=_;rw[HTA.out _ (by decide)];exact decide_eq_false evar
 clear evar
 refine(bU HVA.out ⟨#[118,97,114]⟩ NAvar.out).mono ?_
 rintro e wq ⟨rfl,hq⟩
 subst wq
 go_wp2_with fail
 by_cases emut:(pv.v.here ts).text=[109,117,116,101,120]
 case pos=>
  have HE:=aa emut
  have hat:pv.v.at ts [109,117,116,101,120]=true:=by rw[HTA.out _ (by decide)];exact decide_eq_true emut
  have HOP:=aa (V.at_open hat)
  have HAT:=aa hat
  clear emut hat
  have HADV:=aa (cK.go1 HT.out HV.out.lt HOP.out)
  have HFIN:Hid (dA ts pv=(⟨109,(pv.v.go1 ts).here ts,[],[]⟩,⟨((pv.v.go1 ts).named ts false).must ts [59],pv.ats⟩)):=by show _=_;unfold dA;rw[HE.out];rfl
  have HK0:Hid (ae (eP br bw w.heap.size) wA wA):=ae.refl _ _
  have HS0:=HSA
  refine(aZ HVA.out ⟨#[109,117,116,101,120]⟩ HAT.out).mono ?_
  rintro e w1 ⟨hk,hx⟩
  have HK1:Hid (ae (eP br bw w.heap.size) wA w1):=HK0.out.trans hk.thr2
  have HS1:=aa (HS0.out.kept hk HNT.out)
  clear hk
  rcases hx with⟨h3,h4,rfl⟩|⟨h3,b,rfl,h4⟩
  case inr=>
   have HO:Hid ((pv.v.go1 ts).ok=false∧an w1 b #[.int .i64 (pv.v.go1 ts).e,.int .i64 (pv.v.go1 ts).a]):=⟨h3,h4⟩
   clear h3 h4
   go_wp2_with fail
   rw[HFIN.out]
   simp only[V.named_no HO.out.1,V.must_no HO.out.1]
   exact⟨rfl,HKT.out _ HK1.out,Or.inr ⟨HO.out.1,b,rfl,HO.out.2⟩⟩
  case inl=>
  have HV1:=aa h4
  have HB1:=aa h3
  clear h3 h4
  have c0:w1.cell? ⟨w.heap.size,0,none⟩=some (.int .i64 0):=HS1.out.cell 0
  have cf:=HS1.out.fz
  go_wp2_with fail
  clear c0 cf
  have HV2:=aa (HV1.out.setO w.heap.size 0 (.int .i64 1) h1 h2)
  have HS2:Hid (an (w1.setCell ⟨w.heap.size,0,none⟩ (.int .i64 1)) w.heap.size (ke {kind:=1} aN aN)):=HS1.out.set 0 _ (show 0< 7 by decide)
  have HK2:=aa (HK1.out.thrS 0 (.int .i64 1))
  generalize hv1:pv.v.go1 ts=v1 at *
  replace hv1:=aa hv1
  refine(gU HV2.out).mono ?_
  rintro e w3 ⟨hk,hx⟩
  have HK3:Hid (ae (eP br bw w.heap.size) wA w3):=HK2.out.trans hk.thr2
  have HS3:=aa (HS2.out.kept hk HNT.out)
  clear hk
  rcases hx with⟨h3,h4,rfl⟩|⟨h3,b,rfl,h4⟩
  case inr=>
   have HO:Hid ((v1.named ts false).ok=false∧an w3 b #[.int .i64 (v1.named ts false).e,.int .i64 (v1.named ts false).a]):=⟨h3,h4⟩
   clear h3 h4
   go_wp2_with fail
   rw[HFIN.out]
   simp only[V.must_no HO.out.1]
   exact⟨rfl,HKT.out _ HK3.out,Or.inr ⟨HO.out.1,b,rfl,HO.out.2⟩⟩
  case inl=>
  have HV3:=aa h4
  have HB3:=aa h3
  clear h3 h4
  have c1:w3.cell? ⟨w.heap.size,1,none⟩=some (.string ⟨#[]⟩):=HS3.out.cell 1
  have c2:w3.cell? ⟨w.heap.size,2,none⟩=some (.int .i64 0):=HS3.out.cell 2
  have c3:w3.cell? ⟨w.heap.size,3,none⟩=some (.int .i64 0):=HS3.out.cell 3
  have c0:w3.cell? ⟨w.heap.size,0,none⟩=some (.int .i64 1):=HS3.out.cell 0
  have cf:=HS3.out.fz
  unfold eW
  go_wp2_with fail
  clear c0 c1 c2 c3 cf
  have HV4:=aa (((HV3.out.setO w.heap.size 1 (.string ⟨(v1.here ts).text.toArray⟩) h1 h2).setO w.heap.size 2 (.int .i64 (v1.here ts).at_) h1 h2).setO w.heap.size 3 (.int .i64 0) h1 h2)
  have HS4:Hid (an (((w3.setCell ⟨w.heap.size,1,none⟩ (.string ⟨(v1.here ts).text.toArray⟩)).setCell ⟨w.heap.size,2,none⟩ (.int .i64 (v1.here ts).at_)).setCell ⟨w.heap.size,3,none⟩ (.int .i64 0)) w.heap.size (ke {kind:=1,name:=(v1.here ts).text,at_:=(v1.here ts).at_} aN aN)):=((HS3.out.set 1 _ (show 1< 7 by decide)).set 2 _ (show 2< 7 by decide)).set 3 _ (show 3< 7 by decide)
  have HK4:=aa (((HK3.out.thrS 1 (.string ⟨(v1.here ts).text.toArray⟩)).thrS 2 (.int .i64 (v1.here ts).at_)).thrS 3 (.int .i64 0))
  generalize hu4:v1.named ts false=u4 at *
  clear hu4
  refine(fk HV4.out ⟨#[59]⟩).mono ?_
  rintro e w5 ⟨hk,hx⟩
  have HK5:Hid (ae (eP br bw w.heap.size) wA w5):=HK4.out.trans hk.thr2
  have HS5:=aa (HS4.out.kept hk HNT.out)
  clear hk
  rcases hx with⟨h3,h4,rfl⟩|⟨h3,b,rfl,h4⟩
  case inr=>
   have HO:Hid ((u4.must ts [59]).ok=false∧an w5 b #[.int .i64 (u4.must ts [59]).e,.int .i64 (u4.must ts [59]).a]):=⟨h3,h4⟩
   clear h3 h4
   go_wp2_with fail
   rw[HFIN.out]
   exact⟨rfl,HKT.out _ HK5.out,Or.inr ⟨HO.out.1,b,rfl,HO.out.2⟩⟩
  case inl=>
  have HV5:=aa h4
  have HB5:=aa h3
  clear h3 h4
  have hz5:=HS5.out.lt
  go_wp2_with fail
  go_ret
  rw[HFIN.out]
  exact⟨HKT.out _ HK5.out,Or.inl ⟨HB5.out,HV5.out,w.heap.size,rfl,aN,aN,[],fun _=>False,⟨Nat.le_refl _,hz5⟩,HS5.out,cA.none _ _ _ _,cA.none _ _ _ _,by show bB _ _ _ (cP []);rw[cP];exact bB.nil,fun _ e=>e.elim,fun e=>(by cases e),fun e=>(by cases e),fun _ _ e=>(by cases e)⟩⟩
 case neg=>
 have NEmut:=aa emut
 have NAmut:Hid (pv.v.at ts [109,117,116,101,120]=false):=by show _=_;rw[HTA.out _ (by decide)];exact decide_eq_false emut
 clear emut
 refine(bU HVA.out ⟨#[109,117,116,101,120]⟩ NAmut.out).mono ?_
 rintro e wq ⟨rfl,hq⟩
 subst wq
 go_wp2_with fail
 by_cases efun:(pv.v.here ts).text=[102,117,110,99]
 case pos=>
  have HE:=aa efun
  have hat:pv.v.at ts [102,117,110,99]=true:=by rw[HTA.out _ (by decide)];exact decide_eq_true efun
  have HOP:=aa (V.at_open hat)
  have HAT:=aa hat
  clear efun hat
  have HADV:=aa (cK.go1 HT.out HV.out.lt HOP.out)
  have HFIN:Hid (dA ts pv=(⟨102,(pv.v.go1 ts).here ts,(V.list ts false ((pv.v.go1 ts).named ts false)).1,(aW ts (aD ts ts.length) 0 ⟨(V.list ts false ((pv.v.go1 ts).named ts false)).2,pv.ats⟩).1⟩,(aW ts (aD ts ts.length) 0 ⟨(V.list ts false ((pv.v.go1 ts).named ts false)).2,pv.ats⟩).2)):=by show _=_;unfold dA mF;rw[HE.out];rfl
  have HK0:Hid (ae (eP br bw w.heap.size) wA wA):=ae.refl _ _
  have HS0:=HSA
  refine(aZ HVA.out ⟨#[102,117,110,99]⟩ HAT.out).mono ?_
  rintro e w1 ⟨hk,hx⟩
  have HK1:Hid (ae (eP br bw w.heap.size) wA w1):=HK0.out.trans hk.thr2
  have HS1:=aa (HS0.out.kept hk HNT.out)
  clear hk
  rcases hx with⟨h3,h4,rfl⟩|⟨h3,b,rfl,h4⟩
  case inr=>
   have HO:Hid ((pv.v.go1 ts).ok=false∧an w1 b #[.int .i64 (pv.v.go1 ts).e,.int .i64 (pv.v.go1 ts).a]):=⟨h3,h4⟩
   clear h3 h4
   go_wp2_with fail
   rw[HFIN.out]
   simp only[]
   rw[eu (by simpa only[V.named_no HO.out.1,V.list_no HO.out.1]using HO.out.1)]
   simp only[V.named_no HO.out.1,V.list_no HO.out.1]
   exact⟨rfl,HKT.out _ HK1.out,Or.inr ⟨HO.out.1,b,rfl,HO.out.2⟩⟩
  case inl=>
  have HV1:=aa h4
  have HB1:=aa h3
  clear h3 h4
  have c0:w1.cell? ⟨w.heap.size,0,none⟩=some (.int .i64 0):=HS1.out.cell 0
  have cf:=HS1.out.fz
  go_wp2_with fail
  clear c0 cf
  have HV2:=aa (HV1.out.setO w.heap.size 0 (.int .i64 2) h1 h2)
  have HS2:Hid (an (w1.setCell ⟨w.heap.size,0,none⟩ (.int .i64 2)) w.heap.size (ke {kind:=2} aN aN)):=HS1.out.set 0 _ (show 0< 7 by decide)
  have HK2:=aa (HK1.out.thrS 0 (.int .i64 2))
  generalize hv1:pv.v.go1 ts=v1 at *
  replace hv1:=aa hv1
  refine(gU HV2.out).mono ?_
  rintro e w3 ⟨hk,hx⟩
  have HK3:Hid (ae (eP br bw w.heap.size) wA w3):=HK2.out.trans hk.thr2
  have HS3:=aa (HS2.out.kept hk HNT.out)
  clear hk
  rcases hx with⟨h3,h4,rfl⟩|⟨h3,b,rfl,h4⟩
  case inr=>
   have HO:Hid ((v1.named ts false).ok=false∧an w3 b #[.int .i64 (v1.named ts false).e,.int .i64 (v1.named ts false).a]):=⟨h3,h4⟩
   clear h3 h4
   go_wp2_with fail
   rw[HFIN.out]
   simp only[]
   rw[eu (by simpa only[V.list_no HO.out.1]using HO.out.1)]
   simp only[V.list_no HO.out.1]
   exact⟨rfl,HKT.out _ HK3.out,Or.inr ⟨HO.out.1,b,rfl,HO.out.2⟩⟩
  case inl=>
  have HV3:=aa h4
  have HB3:=aa h3
  clear h3 h4
  have c1:w3.cell? ⟨w.heap.size,1,none⟩=some (.string ⟨#[]⟩):=HS3.out.cell 1
  have c2:w3.cell? ⟨w.heap.size,2,none⟩=some (.int .i64 0):=HS3.out.cell 2
  have c3:w3.cell? ⟨w.heap.size,3,none⟩=some (.int .i64 0):=HS3.out.cell 3
  have c0:w3.cell? ⟨w.heap.size,0,none⟩=some (.int .i64 2):=HS3.out.cell 0
  have cf:=HS3.out.fz
  have hmf:∀(fn:Fn) (first cap:Array Value) (w:World),(Instr.makeFunc fn first cap).run Tryz.prog w=.ok (.func fn first cap) w:=fun _ _ _ _=>rfl
  unfold eW
  go_wp2_with fail
  clear c0 c1 c2 c3 cf
  have HV4:=aa (((HV3.out.setO w.heap.size 1 (.string ⟨(v1.here ts).text.toArray⟩) h1 h2).setO w.heap.size 2 (.int .i64 (v1.here ts).at_) h1 h2).setO w.heap.size 3 (.int .i64 0) h1 h2)
  have HS4:Hid (an (((w3.setCell ⟨w.heap.size,1,none⟩ (.string ⟨(v1.here ts).text.toArray⟩)).setCell ⟨w.heap.size,2,none⟩ (.int .i64 (v1.here ts).at_)).setCell ⟨w.heap.size,3,none⟩ (.int .i64 0)) w.heap.size (ke {kind:=2,name:=(v1.here ts).text,at_:=(v1.here ts).at_} aN aN)):=((HS3.out.set 1 _ (show 1< 7 by decide)).set 2 _ (show 2< 7 by decide)).set 3 _ (show 3< 7 by decide)
  have HK4:=aa (((HK3.out.thrS 1 (.string ⟨(v1.here ts).text.toArray⟩)).thrS 2 (.int .i64 (v1.here ts).at_)).thrS 3 (.int .i64 0))
  have hz4:=HS4.out.lt
  have HADN:=aa (cK.named (ts:=ts) false HT.out HV2.out.lt)
  generalize hu4:v1.named ts false=u4 at *
  replace hu4:=aa hu4
  refine(tW HV4.out).mono ?_
  rintro e w5 ⟨hk,hx⟩
  have HK5:Hid (ae (eP br bw w.heap.size) wA w5):=HK4.out.trans hk.thr2
  have HS5:=aa (HS4.out.kept hk HNT.out)
  clear hk
  rcases hx with⟨h3,h4,sp,rfl,h5⟩|⟨h3,b,rfl,h4⟩
  case inr=>
   have HO:Hid (((V.list ts false u4).2).ok=false∧an w5 b #[.int .i64 ((V.list ts false u4).2).e,.int .i64 ((V.list ts false u4).2).a]):=⟨h3,h4⟩
   clear h3 h4
   go_wp2_with fail
   rw[HFIN.out]
   simp only[]
   rw[eu (by exact HO.out.1)]
   exact⟨rfl,HKT.out _ HK5.out,Or.inr ⟨HO.out.1,b,rfl,HO.out.2⟩⟩
  case inl=>
  have HV5:=aa h4
  have HB5:=aa h3
  clear h3 h4
  obtain⟨psp,csp,rfl⟩:=ai h5
  have HP5:=aa (bz h5 (show wA.heap.size≤_ by have:=HK4.out.size;exact this))
  clear h5
  have HADL:=aa (cK.list (ts:=ts) false HT.out HV4.out.lt)
  have c4:w5.cell? ⟨w.heap.size,4,none⟩=some aN:=HS5.out.cell 4
  have cf:=HS5.out.fz
  have hz5:=HK5.out.size
  go_wp2_with fail
  clear c4 cf
  generalize hLL:V.list ts false u4=LL at *
  replace hLL:=aa hLL
  have HV6:=aa (HV5.out.setO w.heap.size 4 (.slice psp LL.1.length csp) h1 h2)
  have HS6:Hid (an (w5.setCell ⟨w.heap.size,4,none⟩ (.slice psp LL.1.length csp)) w.heap.size (ke {kind:=2,name:=(v1.here ts).text,at_:=(v1.here ts).at_} (.slice psp LL.1.length csp) aN)):=HS5.out.set 4 _ (show 4< 7 by decide)
  have HK6:=aa (HK5.out.thrS 4 (.slice psp LL.1.length csp))
  have HP6:=aa (aJ (b:=w.heap.size) HP5.out 4 (.slice psp LL.1.length csp) (by have:=HZA.out;omega))
  have HG6:Hid (dT ⟨LL.2,pv.ats⟩):=fun x=>by have a1:=HG.out HV.out.ok;have a2:=(HADL.out.ok x).2;have a3:=(HADN.out.ok HB3.out).2;have a4:=(HADV.out.ok HB1.out).2;show pv.ats.length≤LL.2.i;omega
  refine(rO ts ts.length _ br bw s ⟨LL.2,pv.ats⟩ 0 HV6.out (by omega) HG6.out (by omega)).mono ?_
  rintro e w7 ⟨hk,hx⟩
  have HK7:Hid (ae (eP br bw w.heap.size) wA w7):=HK6.out.trans hk.thr2
  have HS7:=aa (HS6.out.kept hk HNT.out)
  have HP7:=aa (aU HP6.out hk (fun i e=>by have:=HZA.out;rcases e with e|e<;>omega))
  clear hk
  rcases hx with⟨h3,h4,u7,bb,rfl,h5,h6⟩|⟨h3,b,rfl,h4⟩
  case inr=>
   have HO:Hid (((aW ts (aD ts ts.length) 0 ⟨LL.2,pv.ats⟩).2.v).ok=false∧an w7 b #[.int .i64 ((aW ts (aD ts ts.length) 0 ⟨LL.2,pv.ats⟩).2.v).e,.int .i64 ((aW ts (aD ts ts.length) 0 ⟨LL.2,pv.ats⟩).2.v).a]):=⟨h3,h4⟩
   clear h3 h4
   go_wp2_with fail
   rw[HFIN.out]
   exact⟨rfl,HKT.out _ HK7.out,Or.inr ⟨HO.out.1,b,rfl,HO.out.2⟩⟩
  case inl=>
  have HV7:=aa h4
  have HB7:=aa h3
  clear h3 h4
  obtain⟨pu,cu,rfl⟩:=ai h5.1
  have HROW:=aa h5
  have HREP:=aa h6
  clear h5 h6
  have c5:w7.cell? ⟨w.heap.size,5,none⟩=some aN:=HS7.out.cell 5
  have cf:=HS7.out.fz
  have hz7:=HS7.out.lt
  go_wp2_with fail
  go_ret
  rw[HFIN.out]
  have hk8:=(ae.refl (ao w.heap.size) w7).set1 5 (.slice pu bb.length cu)
  have hs8:(w7.setCell ⟨w.heap.size,5,none⟩ (.slice pu bb.length cu)).heap.size=w7.heap.size:=by simp[World.setCell]
  have h0:∀b,cV (w5.setCell ⟨w.heap.size,4,none⟩ (.slice psp LL.1.length csp)) w7 b→b< w7.heap.size∧¬ao w.heap.size b∧cV w (w7.setCell ⟨w.heap.size,5,none⟩ (.slice pu bb.length cu)) b:=fun b hb=>by have a1:=hb.1;have a2:=hb.2;simp[World.setCell]at a1;have a3:=HZA.out;exact⟨a2,fun e=>by have:b=w.heap.size:=e;omega,by omega,by omega⟩
  have hoP:=aJ (b:=w.heap.size) HP7.out 5 (.slice pu bb.length cu) (by have:=HZA.out;omega)
  refine⟨HKT.out _ (HK7.out.thrS 5 _),Or.inl ⟨HB7.out,HV7.out.setO w.heap.size 5 _ h1 h2,w.heap.size,rfl,.slice psp LL.1.length csp,.slice pu bb.length cu,bb,fun b=>cV (w5.setCell ⟨w.heap.size,4,none⟩ (.slice psp LL.1.length csp)) w7 b∧Value.ownBlock (.slice pu bb.length cu)≠some b,⟨Nat.le_refl _,by omega⟩,HS7.out.set 5 _ (show 5< 7 by decide),?_,HROW.out.keep hk8 h0,HREP.out.keep hk8 (fun b hb=>⟨(h0 b hb.1).1,(h0 b hb.1).2.1,hb⟩),fun b hb=>⟨(h0 b hb.1).2.2,(h0 b hb.1).2.1,fun e=>by have:=(HP6.out.lt b e).2;have:=hb.1.1;omega,hb.2⟩,fun e=>by have:=(HP6.out.lt _ e).1;have:=HZA.out;omega,fun e=>(h0 _ (HROW.out.2 _ e)).2.1 rfl,fun i e1 e2=>by have:=(HP6.out.lt i e1).2;have:=(HROW.out.2 i e2).1;omega⟩⟩
  show cA _ _ _ _ _ (LL.1.map xv).length (jm (LL.1.map xv))
  rw[xH,List.length_map]
  exact⟨bz hoP (Nat.zero_le _),fun k hk=>⟨by have:=(hoP.lt k hk).1;have:=HZA.out;omega,(hoP.lt k hk).2⟩⟩
 case neg=>
 have NEfun:=aa efun
 have NAfun:Hid (pv.v.at ts [102,117,110,99]=false):=by show _=_;rw[HTA.out _ (by decide)];exact decide_eq_false efun
 clear efun
 refine(bU HVA.out ⟨#[102,117,110,99]⟩ NAfun.out).mono ?_
 rintro e wq ⟨rfl,hq⟩
 subst wq
 go_wp2_with fail
 have HFIN:Hid (dA ts pv=(⟨0,⟨0,[],0,0⟩,[],[]⟩,⟨pv.v.flt 5 (pv.v.here ts).at_,pv.ats⟩)):=by show _=_;unfold dA;rw[if_neg NEvar.out,if_neg NEmut.out,if_neg NEfun.out]
 have HFL:=aa (V.flt_yes HV.out.ok 5 (pv.v.here ts).at_ (by decide))
 refine(lH HVA.out).mono ?_
 rintro e w1 ⟨⟨b,rfl,h3⟩,h4⟩
 replace h3:=aa h3
 replace h4:=aa h4
 go_wp2_with fail
 rw[HFIN.out]
 exact⟨rfl,HKA.out.below h4.out,Or.inr ⟨HFL.out.1,b,rfl,by rw[HFL.out.2.1,HFL.out.2.2];exact h3.out⟩⟩
end
section
set_option maxRecDepth 100000
set_option maxHeartbeats 4000000
open Go.RowKit
theorem BO(s:ByteArray)(w:World)(hs:s.size≤700):
  Calls Tryz.prog 25 #[.string s] w fun r w'=>r=.returned (.pointer (some ⟨w.heap.size,0,none⟩))∧w'=w.alloc (.cells #[.string s,.int .i64 0] 120):=by
 have h7:¬(700:Int)< s.size:=by omega
 go_enter Tryz.func25,Tryz.ntmps25
 go_wp2_with fail
 go_ret
 exact⟨rfl,rfl⟩
theorem zD{w:World}{br bw:Nat}{s:ByteArray}{ts:List aI}(hT:eG s.data.toList ts)(hs:s.size≤700)(hrb:an w br #[.pointer (some ⟨bw,0,none⟩),.int .i64 0,.string ⟨#[]⟩,.int .i64 0,.int .i64 0])(hwb:an w bw #[.string s,.int .i64 (0:Nat)])(hne:br≠bw):
  Calls Tryz.prog 26 #[.pointer (some ⟨br,0,none⟩)] w fun r w'=>ig w w' br bw s ts (gI ts) 0 r qV:=by
 have HT:=aa hT
 have HRB:=aa hrb
 have HWB:=aa hwb
 have c0:=hrb.cell 0
 have hlen:0< ts.length:=(List.getElem?_eq_some_iff.1 hT.first).1
 have HH:Hid (V.here ts ⟨0,0,0⟩=el s.data.toList (dO s.data.toList 0)):=by show _=_;unfold V.here;rw[hT.first];rfl
 have HSV:Hid (gI ts=if(V.here ts ⟨0,0,0⟩).k=120 then V.flt ⟨0,0,0⟩ (V.here ts ⟨0,0,0⟩).e (V.here ts ⟨0,0,0⟩).at_ else⟨0,0,0⟩):=rfl
 have HER:=aa (tB s.data.toList (dO s.data.toList 0))
 clear hT hrb hwb
 go_enter Tryz.func26,Tryz.ntmps26
 go_wp2_with fail
 refine(qt HWB.out hs (Nat.zero_le _)).mono ?_
 rintro e w1 ⟨hk1,⟨hx,rfl,hB1⟩|⟨hx,⟨b,rfl,hblk⟩⟩⟩
 ·rw[←HH.out]at hx hB1⊢
  have HX:=aa hx
  have HB1:=aa hB1
  have HK1:=aa hk1
  have HR1:=aa (HRB.out.only hk1 hne)
  have r0:=HR1.out.cell 0
  have r1:=HR1.out.cell 1
  have r2:=HR1.out.cell 2
  have r3:=HR1.out.cell 3
  have rf:=HR1.out.fz
  have HS2:=aa (HSV.out.trans (if_neg hx))
  clear hx hB1 hk1
  unfold dM
  go_wp2_with fail
  go_end0
  rw[HS2.out]
  have hk3:=(((HK1.out.mono (T:=eZ br bw) (fun _ e=>Or.inr e)).setCell (p:=⟨br,1,none⟩) (Or.inl (Or.inl rfl)) (.int .i64 (ez (V.here ts ⟨0,0,0⟩).k))).setCell (p:=⟨br,2,none⟩) (Or.inl (Or.inl rfl)) (.string ⟨(V.here ts ⟨0,0,0⟩).text.toArray⟩)).setCell (p:=⟨br,3,none⟩) (Or.inl (Or.inl rfl)) (.int .i64 (V.here ts ⟨0,0,0⟩).at_)
  exact⟨hk3,Or.inl ⟨rfl,⟨((HR1.out.set 1 (.int .i64 (ez (V.here ts ⟨0,0,0⟩).k)) (by simp)).set 2 (.string ⟨(V.here ts ⟨0,0,0⟩).text.toArray⟩) (by simp)).set 3 (.int .i64 (V.here ts ⟨0,0,0⟩).at_) (by simp),((HB1.out.setO _ 1 _ (Ne.symm hne)).setO _ 2 _ (Ne.symm hne)).setO _ 3 _ (Ne.symm hne),hne,rfl,hlen,HX.out,HT.out,hs⟩,rfl⟩⟩
 ·rw[←HH.out]at hx hblk
  have HK1:=aa hk1
  have HBL:=aa hblk
  have HS2:=aa (HSV.out.trans (if_pos hx))
  have HE:=aa (HER.out (by rw[←HH.out];exact hx))
  clear hx hblk hk1
  go_wp2_with fail
  rw[HS2.out]
  rw[←HH.out]at HE
  have hf:=V.flt_yes (v:=⟨0,0,0⟩) rfl (V.here ts ⟨0,0,0⟩).e (V.here ts ⟨0,0,0⟩).at_ HE.out
  exact⟨rfl,HK1.out.mono (fun _ e=>Or.inr e),Or.inr ⟨hf.1,b,rfl,by rw[hf.2.1,hf.2.2];exact HBL.out⟩⟩
inductive eS(w:World):(Nat→Prop)→List Nat→List Pd→Prop
 |nil {P:Nat→Prop}:eS w P [] []
 |cons {P Q R:Nat→Prop} {bs:List Nat} {l:List Pd} {b:Nat} {p:Pd}:iG w Q b p→eS w R bs l→(∀i,Q i→P i∧¬R i)→(∀i,R i→P i)→eS w P (b::bs) (p::l)
theorem eS.keep{w w':World}{P P' S:Nat→Prop}(k:ae S w w')(h0:∀b,P b→b< w.heap.size∧¬S b∧P' b){bs:List Nat}{l:List Pd}(h:eS w P bs l):eS w' P' bs l:=by
 induction h generalizing P' with
 |nil=>exact eS.nil
 |cons h1 _ hq hr ih=>exact eS.cons (h1.keep (P':=_) k (fun i hi=>⟨(h0 i (hq i hi).1).1,(h0 i (hq i hi).1).2.1,hi⟩)) (ih (P':=_) (fun i hi=>⟨(h0 i (hr i hi)).1,(h0 i (hr i hi)).2.1,hi⟩)) (fun i hi=>⟨(h0 i (hq i hi).1).2.2,(hq i hi).2⟩) (fun i hi=>(h0 i (hr i hi)).2.2)
theorem eS.snoc{w:World}{P P' Q:Nat→Prop}{bs:List Nat}{l:List Pd}{b:Nat}{s:Pd}(h:eS w P bs l)(hs:iG w Q b s)(h1:∀i,P i→P' i∧¬Q i)(h2:∀i,Q i→P' i):eS w P' (bs++[b]) (l++[s]):=by
 induction bs generalizing l P P' with
 |nil=>cases h;exact eS.cons (R:=fun _=>False) hs eS.nil (fun i hi=>⟨h2 i hi,fun e=>e⟩) (fun i hi=>hi.elim)
 |cons c bs ih=>
  cases h with
  |@cons _ Q' R _ _ _ _ g1 g2 hq hr=>exact eS.cons (R:=fun i=>R i∨Q i) g1 (ih g2 (fun i hi=>⟨Or.inl hi,(h1 i (hr i hi)).2⟩) (fun i hi=>Or.inr hi)) (fun i hi=>⟨(h1 i (hq i hi).1).1,fun e=>e.elim (hq i hi).2 (h1 i (hq i hi).1).2⟩) (fun i hi=>hi.elim (fun e=>(h1 i (hr i e)).1) (h2 i))
def xe(w:World)(P:Nat→Prop)(b:Nat)(l:List Pd):Prop:=∃dv bds,∃Q:Nat→Prop,P b∧an w b #[dv,aN]∧cA w P 84 1 dv bds.length (dW bds)∧eS w Q bds l∧(∀i,Q i→P i∧i≠b∧dv.ownBlock≠some i)∧dv.ownBlock≠some b
structure RL(w wr:World)(br bw bp:Nat)(s:ByteArray)(ts:List aI)(g:Nat)(l:Value)(acc:List sZ)(bds:List Nat)(pv:PV):Prop where
 rv:RV wr br bw s ts pv.v 0
 pb:an wr bp #[l,aN]
 own:wr.ownsRow (bp+1) 84 1 l bds.length (dW bds)
 rep:eS wr (fun b=>bp< b∧b< wr.heap.size∧l.ownBlock≠some b) bds (acc.map ik)
 kp:Below w.heap.size w wr
 good:dT pv
 fuel:ts.length≤g+pv.v.i
 few:bds.length≤pv.v.i
 eq:be ts=fZ ts g (acc,pv)
theorem RL.bad{w wr w2:World}{n bp:Nat}{s:ByteArray}{ts:List aI}{g g':Nat}{l:Value}{acc:List sZ}{bds:List Nat}{pv:PV}{b:Nat}(h:RL w wr (n+1) n bp s ts g l acc bds pv)(heq:be ts=fZ ts g' (dU ts (acc,pv)))(hv:(dU ts (acc,pv)).2=(dA ts pv).2)(hok:(dA ts pv).2.v.ok=false)(k:ae (eZ (n+1) n) wr.drew w2)(hn:w.heap.size+2≤wr.heap.size∨True)(hb:an w2 b #[.int .i64 (dA ts pv).2.v.e,.int .i64 (dA ts pv).2.v.a])(hnw:n=w.heap.size){R:Prop}:
  Below w.heap.size w w2∧(((be ts).2.v.ok=true∧R)∨((be ts).2.v.ok=false∧cc w2 (cY b) (be ts).2.v.e (be ts).2.v.a)):=by
 have e:(be ts).2.v=(dA ts pv).2.v:=by
  rw[heq,jC (by rw[hv,hok];rfl),hv]
 subst hnw
 refine⟨ae.to_below ((ae.of_below (S:=fun _=>False) h.kp.drew).trans' k (fun i e=>by rcases e with e|e<;>exact Or.inr (by omega))),Or.inr ⟨by rw[e];exact hok,b,rfl,by rw[e];exact hb⟩⟩
theorem RL.next{w wr w2 w3:World}{n bp:Nat}{s:ByteArray}{ts:List aI}{g':Nat}{pl p3:Option Addr}{cl c3:Nat}{acc:List sZ}{bds:List Nat}{pv:PV}{bd:Nat}(h:RL w wr (n+1) n bp s ts (g'+1) (.slice pl bds.length cl) acc bds pv)(heq:be ts=fZ ts g' (dU ts (acc,pv)))(hv:(dU ts (acc,pv)).2=(dA ts pv).2)
  (hso:dT (dU ts (acc,pv)).2∧cK ts 0 pv.v (dU ts (acc,pv)).2.v∧((dU ts (acc,pv)).2.v.ok=true→pv.v.i+1≤(dU ts (acc,pv)).2.v.i∧(dU ts (acc,pv)).1.length≤acc.length+1)) (hok:(dA ts pv).2.v.ok=true) (k:ae (eZ (n+1) n) wr.drew w2) (hrv:RV w2 (n+1) n s ts (dA ts pv).2.v 0) (hrep:iG w2 (cV wr.drew w2) bd (ik (dA ts pv).1))
  (hk3:ae (fun i=>Value.ownBlock (.slice pl bds.length cl)=some i) w2 w3) (hown:w3.ownsRow (bp+1) 84 1 (.slice p3 (bds.length+1) c3) (bds.length+1) (dW bds++[ak bd])) (hwh:Value.ownBlock (.slice p3 (bds.length+1) c3)=Value.ownBlock (.slice pl bds.length cl)∨Value.ownBlock (.slice p3 (bds.length+1) c3)=some (w2.heap.size+1)) (hnb:n+2≤bp) (hnw:n=w.heap.size):
  RL w (w3.setCell ⟨bp,0,none⟩ (.slice p3 (bds.length+1) c3)) (n+1) n bp s ts g' (.slice p3 (bds.length+1) c3) (dU ts (acc,pv)).1 (bds++[bd]) (dU ts (acc,pv)).2:=by
 subst hnw
 have heq2:=wG ts (acc,pv) (by exact hok) h.rv.ok
 have hadv:=hso.2.2 (by rw[hv];exact hok)
 have hz2:wr.heap.size≤w2.heap.size:=k.size
 have hz3:=hk3.size
 have hlo:∀i,Value.ownBlock (.slice pl bds.length cl)=some i→bp+1≤i∧i< wr.heap.size:=fun i e=>h.own.lt i e
 have hl3:∀b,b< w2.heap.size→Value.ownBlock (.slice pl bds.length cl)≠some b→Value.ownBlock (.slice p3 (bds.length+1) c3)≠some b:=fun b hb hn e=>by
  rcases hwh with x|x
  ·rw[x]at e;exact hn e
  ·rw[x]at e;simp at e;omega
 have hbpw:=h.pb.lt
 have hp2:an w2 bp #[.slice pl bds.length cl,aN]:=(h.pb.below ((Below.refl _ _).drew)).kept k (fun e=>by rcases e with e|e<;>omega)
 have hp3:=hp2.kept hk3 (fun e=>by have:=(hlo _ e).1;omega)
 have hs4:(w3.setCell ⟨bp,0,none⟩ (.slice p3 (bds.length+1) c3)).heap.size=w3.heap.size:=by simp[World.setCell]
 have k4:=(ae.refl (ao bp) w3).set1 0 (.slice p3 (bds.length+1) c3)
 have e1:(dU ts (acc,pv)).1=acc++[(dA ts pv).1]:=by rw[heq2]
 refine⟨?_,hp3.set 0 _ (by simp),?_,?_,?_,hso.1,by have:=h.fuel;omega,by have:=h.few;simp;omega,heq⟩
 ·rw[hv]
  exact(hrv.kept hk3 (fun e=>by have:=(hlo _ e).1;omega) (fun e=>by have:=(hlo _ e).1;omega)).setO bp 0 _ (by omega) (by omega)
 ·rw[ky]
  have:=aJ (b:=bp) hown 0 (.slice p3 (bds.length+1) c3) (by omega)
  simpa using this
 ·rw[e1,List.map_append]
  have a1:eS w2 (fun b=>bp< b∧b< wr.heap.size∧Value.ownBlock (.slice pl bds.length cl)≠some b) bds (acc.map ik):=(h.rep.keep (P':=fun b=>bp< b∧b< wr.heap.size∧Value.ownBlock (.slice pl bds.length cl)≠some b) ((ae.refl (fun _=>False) wr).drew) (fun b hb=>⟨hb.2.1,fun e=>e,hb⟩)).keep k (fun b hb=>⟨hb.2.1,fun e=>by have:=hb.1;rcases e with e|e<;>omega,hb⟩)
  have a2:eS w3 (fun b=>bp< b∧b< wr.heap.size∧Value.ownBlock (.slice pl bds.length cl)≠some b) bds (acc.map ik):=a1.keep hk3 (fun b hb=>⟨by omega,hb.2.2,hb⟩)
  have a3:=a2.keep (P':=fun b=>bp< b∧b< wr.heap.size∧Value.ownBlock (.slice pl bds.length cl)≠some b) k4 (fun b hb=>⟨by omega,fun e=>by have:b=bp:=e;have:=hb.1;omega,hb⟩)
  have b2:iG w3 (cV wr.drew w2) bd (ik (dA ts pv).1):=hrep.keep hk3 (fun b hb=>by
   have b1:wr.heap.size≤b:=hb.1
   exact⟨hb.2,fun e=>by have:=(hlo b e).2;omega,hb⟩)
  have b3:=b2.keep (P':=cV wr.drew w2) k4 (fun b hb=>by
   have b1:wr.heap.size≤b:=hb.1
   have b2:=hb.2
   exact⟨by omega,fun e=>by have:b=bp:=e;omega,hb⟩)
  refine a3.snoc b3 (fun b hb=>⟨⟨hb.1,by rw[hs4];omega,hl3 b (by omega) hb.2.2⟩,fun e=>by have e1:wr.heap.size≤b:=e.1;omega⟩) (fun b hb=>?_)
  have b1:wr.heap.size≤b:=hb.1
  have b2:=hb.2
  exact⟨by omega,by rw[hs4];omega,hl3 b b2 (fun e=>by have:=(hlo b e).2;omega)⟩
 ·exact ae.to_below ((((ae.of_below (S:=fun _=>False) h.kp.drew).trans' k (fun i e=>by rcases e with e|e<;>exact Or.inr (by omega))).trans' hk3 (fun i e=>Or.inr (by have:=(hlo i e).1;omega))).trans' k4 (fun i e=>Or.inr (by have:i=bp:=e;omega)))
theorem RV.isEnd{w:World}{br bw:Nat}{s:ByteArray}{ts:List aI}{v:V}{dep:Nat}(h:RV w br bw s ts v dep):((ez (v.here ts).k:Int)!=0)= !((v.here ts).k==36):=by
 rcases h.kinds with e|e|e|e|e<;>rw[e]<;>rfl
theorem AY{s:ByteArray}{ts:List aI}(w:World)(hT:eG s.data.toList ts)(hs:s.size≤700):
  Calls Tryz.prog 18 #[.string s] w fun r w'=>Below w.heap.size w w'∧(((be ts).2.v.ok=true∧∃bp,r=.returned (ak bp)∧xe w' (cV w w') bp ((be ts).1.map ik))∨((be ts).2.v.ok=false∧cc w' r (be ts).2.v.e (be ts).2.v.a)):=by
 obtain⟨i0,hi,hz0,hz1,hz2⟩:=info_parts pz
 have HT:=aa hT
 have hlen:0< ts.length:=(List.getElem?_eq_some_iff.1 hT.first).1
 have h7:ts.length≤701:=by have:=hT.len;rw[bJ]at this;omega
 have HPR:Hid (be ts=fZ ts ts.length ([],⟨gI ts,[]⟩)):=rfl
 clear hT
 go_enter Tryz.func18,Tryz.ntmps18
 go_wp2_with fail
 refine(BO s w hs).mono ?_
 rintro e w0 ⟨rfl,hw0⟩
 subst hw0
 go_wp2_with fail
 have HWB:Hid (an ((w.alloc (.cells #[.string s,.int .i64 0] 120)).alloc (.cells #[.pointer (some ⟨w.heap.size,0,none⟩),.int .i64 0,.string ⟨#[]⟩,.int .i64 0,.int .i64 0] 79)) w.heap.size #[.string s,.int .i64 (0:Nat)]):=(an.new w #[.string s,.int .i64 0] 120).alloc _
 have HRB:Hid (an ((w.alloc (.cells #[.string s,.int .i64 0] 120)).alloc (.cells #[.pointer (some ⟨w.heap.size,0,none⟩),.int .i64 0,.string ⟨#[]⟩,.int .i64 0,.int .i64 0] 79)) (w.heap.size+1) #[.pointer (some ⟨w.heap.size,0,none⟩),.int .i64 0,.string ⟨#[]⟩,.int .i64 0,.int .i64 0]):=an.newAt _ _ _ _ (by simp)
 have HKA:Hid (Below w.heap.size w ((w.alloc (.cells #[.string s,.int .i64 0] 120)).alloc (.cells #[.pointer (some ⟨w.heap.size,0,none⟩),.int .i64 0,.string ⟨#[]⟩,.int .i64 0,.int .i64 0] 79))):=((Below.refl _ _).alloc (Nat.le_refl _) _).alloc (by simp) _
 refine(zD HT.out hs HRB.out HWB.out (by omega)).mono ?_
 rintro e w1 ⟨hk,hx⟩
 have HZ1:Hid (w.heap.size+2≤w1.heap.size):=by show _≤_;have:=hk.size;simpa using this
 have HK1:Hid (Below w.heap.size w w1):=ae.to_below ((ae.of_below (S:=fun _=>False) HKA.out).trans' hk (fun i e=>by rcases e with e|e;exact Or.inr (by omega);exact Or.inr (by omega)))
 clear hk
 rcases hx with⟨h3,h4,rfl⟩|⟨h3,b,rfl,h4⟩
 case inr=>
  have HO:Hid ((gI ts).ok=false∧an w1 b #[.int .i64 (gI ts).e,.int .i64 (gI ts).a]):=⟨h3,h4⟩
  clear h3 h4
  go_wp2_with fail
  have e:be ts=([],⟨gI ts,[]⟩):=by rw[HPR.out];exact jC (s:=([],⟨gI ts,[]⟩)) (by simp[HO.out.1])
  rw[e]
  exact⟨rfl,HK1.out,Or.inr ⟨HO.out.1,b,rfl,HO.out.2⟩⟩
 case inl=>
 have HV1:=aa h4
 clear h3 h4
 have HRL0:Hid (RL w (w1.alloc (.cells #[aN,aN] 83)) (w.heap.size+1) w.heap.size w1.heap.size s ts ts.length aN [] [] ⟨gI ts,[]⟩):=
  ⟨HV1.out.below ((Below.refl _ _).alloc (Nat.le_refl _) _),an.new _ _ _,World.ownsRow_nil _ _ _ _,eS.nil,HK1.out.alloc (by have:=HZ1.out;omega) _,fun _=>Nat.zero_le _,by omega,Nat.zero_le _,HPR.out⟩
 go_wp2_with fail
 go_loopg [] ts.length (fun g wr=>∃l acc bds pv,Hid (RL w wr (w.heap.size+1) w.heap.size w1.heap.size s ts g l acc bds pv))
 case atStart=>exact⟨aN,[],[],_,HRL0⟩
 case round=>
  obtain⟨l,acc,bds,pv,HL⟩:=hrel
  have c1:=HL.out.rv.rb.cell 1
  have c1':wr.cell? ⟨w.heap.size+1,1+0,none⟩=some (.int .i64 (ez (pv.v.here ts).k)):=HL.out.rv.rb.cell 1
  have hie:=HL.out.rv.isEnd
  have hfew:=HL.out.few
  have hilt:=HL.out.rv.lt
  obtain⟨pl,cl,rfl⟩:=ai HL.out.own
  have hz1w:=HZ1.out
  have hz:=HL.out.pb.lt
  cases hk:((pv.v.here ts).k==36)
  ·rw[hk]at hie
   have HKE:=aa hk
   have hgk:=HL.out.fuel
   obtain⟨g',rfl⟩:∃g',gk=g'+1:=⟨gk-1,by omega⟩
   have HEQ:=aa (HL.out.eq.trans (uG (s:=(acc,pv)) (by simp[HL.out.rv.ok,hk])))
   have HSO:=aa (eQ.decl HT.out (acc,pv) HL.out.good HL.out.rv.lt)
   have q0:wr.cell? ⟨w1.heap.size,0,none⟩=some (.slice pl bds.length cl):=HL.out.pb.cell 0
   have qf:=HL.out.pb.fz
   clear hk
   go_wp2_with fail
   have HDV:=aa (yy ts (acc,pv))
   have HVd:=aa (HL.out.rv.below ((Below.refl _ _).drew))
   have HTW:Hid (∀i,eZ (w.heap.size+1) w.heap.size i→i< w1.heap.size+1):=fun i e=>by rcases e with e|e<;>omega
   go_region_law (first|(refine en rfl ?_;go_wp2_with fail;refine(Ba HVd.out HL.out.good).mono ?_;rintro e w2 hO;cases hok2:(dA ts pv).2.v.ok;(focus(obtain⟨hkx,b,rfl,hb⟩:=hO.bad hok2;replace hkx:=aa hkx;replace hb:=aa hb;replace hok2:=aa hok2;clear hO;go_wp2_with fail;exact⟨rfl,HL.out.bad HEQ.out HDV.out hok2.out hkx.out (Or.inr trivial) hb.out rfl⟩));(obtain⟨hkx,hrv,bd,rfl,hrep⟩:=hO.good hok2;have HO2:=aa (aU (dR HL.out.own) hkx HTW.out);have HP2:=aa ((HL.out.pb.below ((Below.refl _ _).drew)).kept hkx (fun e=>by rcases e with e|e<;>omega));have q0b:w2.cell? ⟨w1.heap.size,0,none⟩=some (.slice pl bds.length cl):=HP2.out.cell 0;have qfb:=HP2.out.fz;have hbp2:=HP2.out.lt;have hzr2:=hkx.size;replace hkx:=aa hkx;replace hrv:=aa hrv;replace hrep:=aa hrep;replace hok2:=aa hok2;clear hO))|(refine aA rfl (.tmp 23) (.tmp 26) 80 rfl (w1.heap.size+1) 84 i0 (.pointer none) 1 8 Tryz.underlying80 hi hz0 hz1 hz2 rfl (by decide) _ _ _ (by simp[Act.eval,Act.put]) (HO2.out.alloc _) ⟨w2.heap.size,0,none⟩ 1 1 [ak bd] (by simp[Act.eval,Act.put]) rfl (aF _ _ _ _ (by simp)) (by intro u hu;simp at hu;subst hu;rfl) (by decide) (by unfold maxLen;omega) (by omega) (by simp;omega) ?_;intro l3 w3 hown3 hgrow3 hwh3;obtain⟨p3,c3,rfl⟩:=ai hown3;have hk3:=ae.grown ((ae.refl (fun k=>Value.ownBlock (.slice pl bds.length cl)=some k) w2).alloc (.cells #[ak bd] 84)) hgrow3 (fun k hk=>Or.inl hk);have HP3:=aa (HP2.out.kept hk3 (fun e=>by have:=(HO2.out.lt _ e).1;omega));have q0c:w3.cell? ⟨w1.heap.size,0,none⟩=some (.slice pl bds.length cl):=HP3.out.cell 0;have qfc:=HP3.out.fz;replace hk3:=aa hk3;replace hown3:=aa hown3;replace hwh3:=aa hwh3;clear hgrow3))
   all_goals
    have HN:=aa (HL.out.next HEQ.out HDV.out HSO.out hok2.out hkx.out hrv.out hrep.out hk3.out (by simpa using hown3.out) (by simpa using hwh3.out) hz1w rfl)
    go_wp2_with fail
    go_roundg g'
    case measure=>omega
    case rel=>exact⟨_,_,_,_,HN⟩
  ·rw[hk]at hie
   have HEQ:=aa (HL.out.eq.trans (jC (s:=(acc,pv)) (by simp[hk])))
   clear hk
   go_wp2_with fail
   go_ret
   rw[HEQ.out]
   refine⟨HL.out.kp,Or.inl ⟨HL.out.rv.ok,w1.heap.size,rfl,_,bds,_,⟨by omega,hz⟩,HL.out.pb,⟨bz HL.out.own (Nat.zero_le _),fun k hk=>⟨by have:=(HL.out.own.lt k hk).1;omega,(HL.out.own.lt k hk).2⟩⟩,HL.out.rep,fun b hb=>⟨⟨by have:=hb.1;omega,hb.2.1⟩,by have:=hb.1;omega,hb.2.2⟩,fun e=>by have:=(HL.out.own.lt _ e).1;omega⟩⟩
end
section
set_option maxRecDepth 100000
set_option maxHeartbeats 1000000
open Go.RowKit
theorem wM(v:Value)(w:World):Sem.run Tryz.prog (Instr.typeAssert (.iface 70 v) 20 70 true) w=.ok (.tuple #[v,.bool true]) w:=by kernel_rfl
theorem Al(p:Addr)(b:Nat)(x:Value)(w:World)(hc:w.cell? p=some x)(hz:w.frozen? p=false):
  CallsD Tryz.prog 24 #[.pointer (some p)] (.panicking [{v:=.iface 70 (.pointer (some ⟨b,0,none⟩)),recovered:=false}]) w fun e u' w'=>
   e=.returned (.tuple #[])∧u'=.panicking [{v:=.iface 70 (.pointer (some ⟨b,0,none⟩)),recovered:=true}]∧w'=w.setCell p (.iface 70 (.pointer (some ⟨b,0,none⟩))):=by
 refine callsD_of_wpS Tryz.func24 rfl fun c₀ cs hu=>?_
 apply wpS_seq
 apply wpS_region
 simp[wpOpsS,go_sem,recoverD,hu,Tryz.ntmps24,Exit.thenS]
 apply wpS_seq
 apply wpS_seq
 apply wpS_region
 simp[wpOpsS,go_sem,Exit.thenS]
 refine wpS_cond (t:=false) (by simp[Act.eval,Array.replicate]) ?_
 simp only[Bool.false_eq_true,if_false]
 refine wpS_of_wp (wp_skip ?_)
 simp only[Exit.thenS]
 apply wpS_seq
 apply wpS_region
 simp[wpOpsS,go_sem,Exit.thenS,Array.replicate,wM]
 apply wpS_seq
 apply wpS_seq
 apply wpS_region
 simp[wpOpsS,go_sem,Exit.thenS]
 refine wpS_cond (t:=false) (by simp[Act.eval]) ?_
 simp only[Bool.false_eq_true,if_false]
 refine wpS_of_wp (wp_skip ?_)
 simp only[Exit.thenS]
 apply wpS_region
 simp[wpOpsS,go_sem,hc,hz,bodyPostS,results,Tryz.results24]
theorem uJ(p:Addr)(w:World):
  CallsD Tryz.prog 24 #[.pointer (some p)] .returning w fun e u' w'=>e=.returned (.tuple #[])∧u'=.returning∧w'=w:=by
 refine callsD_of_wpS Tryz.func24 rfl fun c₀ cs hu=>?_
 apply wpS_seq
 apply wpS_region
 simp[wpOpsS,go_sem,recoverD,hu,Tryz.ntmps24,Exit.thenS]
 apply wpS_seq
 apply wpS_seq
 apply wpS_region
 simp[wpOpsS,go_sem,Exit.thenS]
 refine wpS_cond (t:=true) (by simp[Act.eval,Array.replicate]) ?_
 simp only[if_true]
 refine wpS_of_wp (wp_ret ?_)
 cases c₀
 simp_all [Exit.thenS,bodyPostS,results,Tryz.results24]
theorem uK{w:World}{S:Nat→Prop}(hS:¬S w.heap.size){G:Nat}{cap:Array Value}{Rok:World→Prop}{Rbad:Nat→World→Prop}(hcf:∀(args:Array Value) (w:World),(callFunc G args).run Tryz.prog w=.ok (.enter G args) w)
  (hG:Calls Tryz.prog G cap (w.alloc (.cells #[.nilIface] 41)) fun e w'=>ae S (w.alloc (.cells #[.nilIface] 41)) w'∧((e=.returned (.tuple #[])∧Rok w')∨∃b,e=cY b∧Rbad b w')):
  Calls Tryz.prog 16 #[.func (.func G) #[] cap] w fun e w'=>∃w1,ae S (w.alloc (.cells #[.nilIface] 41)) w1∧((e=.returned .nilIface∧Rok w1∧w'=w1.setCell ⟨w.heap.size,0,none⟩ .nilIface)∨∃b,e=.returned (.iface 70 (.pointer (some ⟨b,0,none⟩)))∧Rbad b w1∧w'=w1.setCell ⟨w.heap.size,0,none⟩ (.iface 70 (.pointer (some ⟨b,0,none⟩)))):=by
 have hmf:∀(fn:Fn) (first cap:Array Value) (w:World),(Instr.makeFunc fn first cap).run Tryz.prog w=.ok (.func fn first cap) w:=fun _ _ _ _=>rfl
 have HG:=aa hG
 clear hG
 go_enter_defers Tryz.func16,Tryz.ntmps16
 go_wp2_with fail
 refine HG.out.mono ?_
 rintro e w1 ⟨hb,⟨rfl,hr⟩|⟨b,rfl,hr⟩⟩
 ·have HB:=aa hb
  have HR:=aa hr
  have hblk:=(an.new w #[.nilIface] 41).kept hb hS
  have c0:w1.cell? ⟨w.heap.size,0,none⟩=some .nilIface:=hblk.cell 0
  have cf:=hblk.fz
  clear hb hr hblk
  go_wp2_with fail
  refine leaves_cons (f:=24) (args:=#[.pointer (some ⟨w.heap.size,0,none⟩)]) (by simp) (by simp[go_sem]) ?_
  refine(uJ ⟨w.heap.size,0,none⟩ _).mono ?_
  rintro e u' w'' ⟨rfl,rfl,rfl⟩
  refine⟨.nilIface,by simp[results,Tryz.results16,go_sem,c0],w1,HB.out,Or.inl ⟨rfl,HR.out,rfl⟩⟩
 ·have HB:=aa hb
  have HR:=aa hr
  have hblk:=(an.new w #[.nilIface] 41).kept hb hS
  have c0:w1.cell? ⟨w.heap.size,0,none⟩=some .nilIface:=hblk.cell 0
  have cf:w1.frozen? ⟨w.heap.size,0,none⟩=false:=hblk.fz 0
  clear hb hr hblk
  go_wp2_with fail
  refine leaves_cons (f:=24) (args:=#[.pointer (some ⟨w.heap.size,0,none⟩)]) (by simp) (by simp[go_sem]) ?_
  refine(Al ⟨w.heap.size,0,none⟩ b _ _ c0 cf).mono ?_
  rintro e u' w'' ⟨rfl,rfl,rfl⟩
  refine⟨.iface 70 (.pointer (some ⟨b,0,none⟩)),by simp[results,Tryz.results16,go_sem,c0],w1,HB.out,Or.inr ⟨b,rfl,HR.out,rfl⟩⟩
end
section
open Go.RowKit Go.Maps
def oF(v:Value):Option (DataW Unit×List MemPlace):=match v with
 |.agg cs=>match cs.toList with
  |[.int .i64 a,.int .i64 b]=>some (.agg [.lit (.int .i64 a),.lit (.int .i64 b)],[])
  |_=>none
 |_=>none
def dJ(x:Nat×Nat):Value:=.agg #[.int .i64 x.1,.int .i64 x.2]
theorem nO(x:Nat×Nat):oF (dJ x)=some (.agg [.lit (.int .i64 x.1),.lit (.int .i64 x.2)],[]):=rfl
theorem lR{v:Value}{x:Nat×Nat}{ps:List MemPlace}(h:oF v=some (.agg [.lit (.int .i64 x.1),.lit (.int .i64 x.2)],ps)):v=dJ x:=by
 unfold oF at h
 split at h
 ·rename_i cs
  split at h
  ·rename_i a b hc
   simp at h
   obtain⟨⟨rfl,rfl⟩,_⟩:=h
   unfold dJ
   congr 1
   exact Array.toList_inj.1 (by rw[hc])
  ·cases h
 ·cases h
theorem lU:Keyed Tryz.prog 9:=string_keyed Tryz.underlying9
theorem tG(w:World):(zeroValue 129).run Tryz.prog w=.ok (dJ (0,0)) w:=by kernel_rfl
theorem oJ(s:ByteArray)(hs:s.size≤1000000):keyOf Tryz.prog 9 (.string s)=some (.string s.data.toList):=WideMaps.keyOf_string_mk Tryz.underlying9 (by unfold maxLen;omega)
theorem oI{s t:aj}(h:s≠t):Lit.string s≠Lit.string t:=fun e=>h (by cases e;rfl)
def dc(w:World)(b n:Nat)(f:aj→Option (Nat×Nat)):Prop:=∃D:DataW Unit,w.ownsMap Tryz.prog 9 oF b n D∧(∀s,has D (.string s)=(f s).isSome)∧∀s x,f s=some x→∀z,D.atKey (.string s) z=.agg [.lit (.int .i64 x.1),.lit (.int .i64 x.2)]
theorem dc.made(w:World):dc (w.alloc (.map #[] 0)) w.heap.size 0 (fun _=>none):=⟨.map [],World.ownsMap_made w _ _ _,fun _=>rfl,fun _ _ h=>by cases h⟩
theorem dc.look{w:World}{b n:Nat}{f:aj→Option (Nat×Nat)}(h:dc w b n f)(s:ByteArray)(hs:s.size≤1000000):
  (Instr.lookup 87 (.map (some b)) (.string s) true).run Tryz.prog w=.ok (.tuple #[dJ ((f s.data.toList).getD (0,0)),.bool (f s.data.toList).isSome]) w:=by
 obtain⟨D,h1,h2,h3⟩:=h
 obtain⟨v,ps,hrun,hv⟩:=h1.look_ok lU Tryz.underlying87 (tG w) (nO (0,0)) (oJ s hs)
 rw[hrun,h2]
 cases hf:f s.data.toList with
 |none=>
  have hn:has D (.string s.data.toList)=false:=by rw[h2,hf];rfl
  rw[atKey_of_not_has hn]at hv
  have:v=dJ (0,0):=lR (x:=(0,0)) hv
  rw[this];rfl
 |some x=>
  rw[h3 _ x hf]at hv
  rw[lR hv];rfl
theorem dc.store{w:World}{b n:Nat}{f:aj→Option (Nat×Nat)}(h:dc w b n f)(s:ByteArray)(hs:s.size≤1000000)(hn:n≤1000000)(x:Nat×Nat):
  ∃w',(Instr.mapUpdate 87 (.map (some b)) (.string s) (dJ x)).run Tryz.prog w=.ok () w'∧dc w' b (n+1) (fun t=>if t=s.data.toList then some x else f t)∧w.mapTurned w' b:=by
 obtain⟨D,h1,h2,h3⟩:=h
 obtain⟨w',hrun,h4,h5⟩:=h1.store lU Tryz.underlying87 (by unfold maxLen;omega) (oJ s hs) (nO x)
 refine⟨w',hrun,⟨_,h4,fun t=>?_,fun t y hy z=>?_⟩,h5⟩
 ·by_cases e:t=s.data.toList
  ·subst e;rw[has_put_same (k:=.string s.data.toList) h1.isMap (show WideAt.IsKeyLit (.string _)from trivial)];simp
  ·rw[has_put_other (oI e),h2];simp[e]
 ·by_cases e:t=s.data.toList
  ·subst e;simp at hy;subst hy;exact atKey_put_same h1.isMap (show WideAt.IsKeyLit (.string _)from trivial) _ _
  ·rw[atKey_put_other (oI e)];simp[e]at hy;exact h3 t y hy z
end
section
set_option maxRecDepth 100000
set_option maxHeartbeats 1000000
open Go.RowKit Go.Maps
def cy(f:aj→Option (Nat×Nat))(t:aj)(kind:Nat):Option Nat:=match f t with
 |some (k,n)=>if k=kind then some n else none
 |none=>none
theorem mj{w:World}{bn bm n kind:Nat}{f:aj→Option (Nat×Nat)}(t:ByteArray)(hs:t.size≤1000000)(hc:w.cell? ⟨bn,1,none⟩=some (.map (some bm)))(hm:dc w bm n f)(hf:cy f t.data.toList kind=none):
  Calls Tryz.prog 45 #[.pointer (some ⟨bn,0,none⟩),.string t,.int .i64 kind] w fun r w'=>r=.returned (.tuple #[.int .i64 0,.bool false])∧Below w.heap.size w w':=by
 have hl:=hm.look t hs
 cases hx:f t.data.toList with
 |none=>
  rw[hx]at hl
  simp only[Option.getD_none,Option.isSome_none]at hl
  clear hm hx hf
  unfold dJ at hl
  go_enter Tryz.func45,Tryz.ntmps45
  go_wp2_with fail
  refine bodyPost_ret (v:=.tuple #[.int .i64 0,.bool false]) (by simp[results,Tryz.results45,go_sem]) rfl ⟨rfl,(Below.refl _ _).alloc (Nat.le_refl _) _⟩
 |some x=>
  obtain⟨k,m⟩:=x
  have hk:¬k=kind:=fun e=>by unfold cy at hf;rw[hx]at hf;simp[e]at hf
  have hkb:((k:Int)!=(kind:Int))=true:=by rw[bne_iff_ne];omega
  rw[hx]at hl
  simp only[Option.getD_some,Option.isSome_some]at hl
  clear hm hx hf hk
  unfold dJ at hl
  go_enter Tryz.func45,Tryz.ntmps45
  go_wp2_with fail
  refine bodyPost_ret (v:=.tuple #[.int .i64 0,.bool false]) (by simp[results,Tryz.results45,go_sem]) rfl ⟨rfl,(Below.refl _ _).alloc (Nat.le_refl _) _⟩
theorem kz{w:World}{bn bm n kind m:Nat}{f:aj→Option (Nat×Nat)}(t:ByteArray)(hs:t.size≤1000000)(hc:w.cell? ⟨bn,1,none⟩=some (.map (some bm)))(hm:dc w bm n f)(hf:cy f t.data.toList kind=some m):
  Calls Tryz.prog 45 #[.pointer (some ⟨bn,0,none⟩),.string t,.int .i64 kind] w fun r w'=>r=.returned (.tuple #[.int .i64 m,.bool true])∧Below w.heap.size w w':=by
 have hl:=hm.look t hs
 unfold cy at hf
 cases hx:f t.data.toList with
 |none=>rw[hx]at hf;cases hf
 |some x=>
  obtain⟨k,m'⟩:=x
  rw[hx]at hf
  simp only at hf
  split at hf
  ·rename_i e
   cases hf
   subst e
   rw[hx]at hl
   simp only[Option.getD_some,Option.isSome_some]at hl
   clear hm hx
   unfold dJ at hl
   go_enter Tryz.func45,Tryz.ntmps45
   go_wp2_with fail
   refine bodyPost_ret (v:=.tuple #[.int .i64 m,.bool true]) (by simp[results,Tryz.results45,go_sem]) rfl ⟨rfl,(Below.refl _ _).alloc (Nat.le_refl _) _⟩
  ·cases hf
end
section
open Go.RowKit Go.Maps
def dF(w:World)(b c:Nat)(f:aj→Option Nat):Prop:=∃D:DataW Unit,w.ownsMap Tryz.prog 9 (plainElem Tryz.prog 3) b c D∧Maps.size D=c∧(∀s,has D (.string s)=(f s).isSome)∧∀s x,f s=some x→∀z,D.atKey (.string s) z=.lit (.int .i64 x)
theorem xo(w:World):(zeroValue 3).run Tryz.prog w=.ok (.int .i64 0) w:=by kernel_rfl
theorem dF.made(w:World):dF (w.alloc (.map #[] 0)) w.heap.size 0 (fun _=>none):=⟨.map [],World.ownsMap_made w _ _ _,rfl,fun _=>rfl,fun _ _ h=>by cases h⟩
theorem dF.look{w:World}{b c:Nat}{f:aj→Option Nat}(h:dF w b c f)(s:ByteArray)(hs:s.size≤1000000):
  (Instr.lookup 100 (.map (some b)) (.string s) true).run Tryz.prog w=.ok (.tuple #[.int .i64 ((f s.data.toList).getD 0:Nat),.bool (f s.data.toList).isSome]) w:=by
 obtain⟨D,h1,_,h2,h3⟩:=h
 obtain⟨v,ps,hrun,hv⟩:=h1.look_ok lU Tryz.underlying100 (xo w) (plainElem_int Tryz.underlying3 (by decide)) (oJ s hs)
 rw[hrun,h2]
 cases hf:f s.data.toList with
 |none=>
  have hn:has D (.string s.data.toList)=false:=by rw[h2,hf];rfl
  rw[atKey_of_not_has hn]at hv
  obtain⟨a,rfl,e,_⟩:=plainElem_int_inv Tryz.underlying3 hv
  cases e;rfl
 |some x=>
  rw[h3 _ x hf]at hv
  obtain⟨a,rfl,e,_⟩:=plainElem_int_inv Tryz.underlying3 hv
  cases e;rfl
theorem dF.len{w:World}{b c:Nat}{f:aj→Option Nat}(h:dF w b c f)(ty:TypeId):(Builtin.len_ #[100] ty #[.map (some b)]).run Tryz.prog w=.ok (.int .i64 c) w:=by
 obtain⟨D,h1,h0,_,_⟩:=h
 rw[h1.len Tryz.underlying100,h0]
theorem dF.add{w:World}{b c:Nat}{f:aj→Option Nat}(h:dF w b c f)(s:ByteArray)(hs:s.size≤1000000)(hn:c≤1000000)(hf:f s.data.toList=none)(x:Nat)(hx:x≤1000000):
  ∃w',(Instr.mapUpdate 100 (.map (some b)) (.string s) (.int .i64 x)).run Tryz.prog w=.ok () w'∧dF w' b (c+1) (fun t=>if t=s.data.toList then some x else f t)∧w.mapTurned w' b:=by
 obtain⟨D,h1,h0,h2,h3⟩:=h
 obtain⟨w',hrun,h4,h5⟩:=h1.store lU Tryz.underlying100 (by unfold maxLen;omega) (oJ s hs) (plainElem_int Tryz.underlying3 (show(Lit.int .i64 (x:Int)).wf=true from WalkArith.wf_i64 (by omega)))
 refine⟨w',hrun,⟨_,h4,?_,fun t=>?_,fun t y hy z=>?_⟩,h5⟩
 ·rw[size_put (h1.tidy lU),if_neg (by rw[h2,hf];simp),h0]
 ·by_cases e:t=s.data.toList
  ·subst e;rw[has_put_same (k:=.string s.data.toList) h1.isMap (show WideAt.IsKeyLit (.string _)from trivial)];simp
  ·rw[has_put_other (oI e),h2];simp[e]
 ·by_cases e:t=s.data.toList
  ·subst e;simp at hy;subst hy;exact atKey_put_same h1.isMap (show WideAt.IsKeyLit (.string _)from trivial) _ _
  ·rw[atKey_put_other (oI e)];simp[e]at hy;exact h3 t y hy z
end
section
set_option maxRecDepth 100000
set_option maxHeartbeats 1000000
open Go.RowKit Go.Maps
structure NM(w:World)(bn bm n:Nat)(f:aj→Option (Nat×Nat)):Prop where
 c1:w.cell? ⟨bn,1,none⟩=some (.map (some bm))
 th:dc w bm n f
structure iH(w:World)(b o:Nat)(t:ByteArray)(a:Nat):Prop where
 t0:w.cell? ⟨b,o,none⟩=some (.string t)
 t1:w.cell? ⟨b,o+1,none⟩=some (.int .i64 a)
 t2:∃m:Nat,w.cell? ⟨b,o+2,none⟩=some (.int .i64 m)
 fz:w.frozen? ⟨b,o+2,none⟩=false
 sz:t.size≤1000000
theorem qC{w:World}{bn bm n b o a:Nat}{f:aj→Option (Nat×Nat)}{t:ByteArray}(hn:NM w bn bm n f)(h:iH w b o t a)(hf:cy f t.data.toList 0=none):
  Calls Tryz.prog 83 #[.pointer (some ⟨bn,0,none⟩),.pointer (some ⟨b,o,none⟩)] w fun r w'=>r=.returned (.bool false)∧Below w.heap.size w w':=by
 have HN:=aa hn
 have HF:=aa hf
 have t0:=h.t0
 have hs:=h.sz
 clear hn hf h
 go_enter Tryz.func83,Tryz.ntmps83
 go_wp2_with fail
 refine(mj (kind:=0) t hs HN.out.c1 HN.out.th HF.out).mono ?_
 rintro e w1 ⟨rfl,hb⟩
 replace hb:=aa hb
 go_wp2_with fail
 go_ret
 exact⟨rfl,hb.out⟩
theorem ol{w:World}{bn bm n b o a m:Nat}{f:aj→Option (Nat×Nat)}{t:ByteArray}(hn:NM w bn bm n f)(h:iH w b o t a)(hf:cy f t.data.toList 0=some m):
  Calls Tryz.prog 83 #[.pointer (some ⟨bn,0,none⟩),.pointer (some ⟨b,o,none⟩)] w fun r w'=>r=.returned (.bool true)∧∃w1,Below w.heap.size w w1∧w'=w1.setCell ⟨b,o+2,none⟩ (.int .i64 m):=by
 have HN:=aa hn
 have HF:=aa hf
 have HA:=aa h
 have t0:=h.t0
 have hs:=h.sz
 clear hn hf h
 go_enter Tryz.func83,Tryz.ntmps83
 go_wp2_with fail
 refine(kz (kind:=0) t hs HN.out.c1 HN.out.th HF.out).mono ?_
 rintro e w1 ⟨rfl,hb⟩
 obtain⟨m2,t2⟩:=HA.out.t2
 have u2:w1.cell? ⟨b,o+2,none⟩=some (.int .i64 m2):=by rw[hb.cell (ah t2)];exact t2
 have uf:w1.frozen? ⟨b,o+2,none⟩=false:=by rw[hb.frozen (ah t2)];exact HA.out.fz
 clear t2
 replace hb:=aa hb
 go_wp2_with fail
 go_ret
 exact⟨rfl,_,hb.out,rfl⟩
theorem qy{w:World}{bn bm n b o a kind:Nat}{f:aj→Option (Nat×Nat)}{t:ByteArray}(hn:NM w bn bm n f)(h:iH w b o t a)(hf:cy f t.data.toList kind=none):
  Calls Tryz.prog 85 #[.pointer (some ⟨bn,0,none⟩),.pointer (some ⟨b,o,none⟩),.int .i64 kind] w fun r w'=>cc w' r 9 a∧Below w.heap.size w w':=by
 have HN:=aa hn
 have HF:=aa hf
 have HA:=aa h
 have t0:=h.t0
 have hs:=h.sz
 clear hn hf h
 go_enter Tryz.func85,Tryz.ntmps85
 go_wp2_with fail
 refine(mj (kind:=kind) t hs HN.out.c1 HN.out.th HF.out).mono ?_
 rintro e w1 ⟨rfl,hb⟩
 have u1:w1.cell? ⟨b,o+1,none⟩=some (.int .i64 a):=by rw[hb.cell (ah HA.out.t1)];exact HA.out.t1
 replace hb:=aa hb
 go_wp2_with fail
 refine(bo 9 a w1).mono ?_
 rintro e w2 ⟨⟨b2,rfl,h3⟩,h4⟩
 replace h3:=aa h3
 replace h4:=aa h4
 go_wp2_with fail
 exact⟨rfl,⟨b2,rfl,h3.out⟩,hb.out.trans (h4.out.mono hb.out.size)⟩
theorem od{w:World}{bn bm n b o a kind m:Nat}{f:aj→Option (Nat×Nat)}{t:ByteArray}(hn:NM w bn bm n f)(h:iH w b o t a)(hf:cy f t.data.toList kind=some m):
  Calls Tryz.prog 85 #[.pointer (some ⟨bn,0,none⟩),.pointer (some ⟨b,o,none⟩),.int .i64 kind] w fun r w'=>r=.returned (.tuple #[])∧∃w1,Below w.heap.size w w1∧w'=w1.setCell ⟨b,o+2,none⟩ (.int .i64 m):=by
 have HN:=aa hn
 have HF:=aa hf
 have HA:=aa h
 have t0:=h.t0
 have hs:=h.sz
 clear hn hf h
 go_enter Tryz.func85,Tryz.ntmps85
 go_wp2_with fail
 refine(kz (kind:=kind) t hs HN.out.c1 HN.out.th HF.out).mono ?_
 rintro e w1 ⟨rfl,hb⟩
 obtain⟨m2,t2⟩:=HA.out.t2
 have u2:w1.cell? ⟨b,o+2,none⟩=some (.int .i64 m2):=by rw[hb.cell (ah t2)];exact t2
 have uf:w1.frozen? ⟨b,o+2,none⟩=false:=by rw[hb.frozen (ah t2)];exact HA.out.fz
 clear t2
 replace hb:=aa hb
 go_wp2_with fail
 go_end0
 first|exact⟨rfl,_,hb.out,rfl⟩|exact⟨_,rfl,hb.out,rfl⟩
end
end Go.Proofs.YtmdaflepdaiabaaGreatDoor
