import Derived.Test.YtmdaflepdaiabaaGreatDoorQ02
set_option linter.unusedSimpArgs false
set_option linter.unusedVariables false
namespace Go.Proofs.YtmdaflepdaiabaaGreatDoor
section
set_option maxRecDepth 100000
set_option maxHeartbeats 4000000
open Go.RowKit
def em(h:Hd):Ph:={at_:=h.at_,kind:=h.op,lt:=h.x.text,la:=h.x.at_,op:=oW h.bin,side:=eC h.field,wa:=if h.op=6∨h.op=7 then h.mark else 0,nt:=if h.op=9∨h.op=10 then h.y.text else h.f.text,na:=if h.op=9∨h.op=10 then h.y.at_ else h.f.at_}
def bD(h:Hd):List aI:=if h.op=9∨h.op=10∨h.op=6 then[]else if h.op=7∨h.op=11 then h.args else if h.op=12 then(if h.has then[h.y]else[])else h.y::lS h
structure ta(d:Hd):Prop where
 bin:d.bin=[]
 field:d.field=[]
 f:d.f=⟨0,[],0,0⟩
def eT(d:Hd):Ph:={at_:=d.at_,lt:=d.x.text,la:=d.x.at_}
abbrev aN:Value:=.slice none 0 0
abbrev tA(t:aI):Array Value:=#[.string ⟨t.text.toArray⟩,.int .i64 t.at_,.int .i64 0]
theorem V.named_num{ts:List aI}{v:V}(h:(v.here ts).k=97):v.named ts false=v.named ts true:=by
 unfold V.named V.bad
 simp[h]
theorem mK{t:aI}(h:t.k=97):gC t=[.string ⟨t.text.toArray⟩,.int .i64 t.at_,.int .i64 0,.int .i64 0]:=by
 unfold gC ki yH pq
 simp[h]
theorem sE{t:aI}(h:t.k=97):ef t=.agg #[.string ⟨t.text.toArray⟩,.int .i64 t.at_,.int .i64 0,.int .i64 0]:=by
 unfold ef ki yH pq
 simp[h]
theorem Hd.right_name{ts:List aI}{v:V}(d:Hd)(h:(v.here ts).k=97):Hd.right ts d v=
  if(v.named ts true).at ts [40]=true then({d with mark:=(v.here ts).at_,op:=11,f:=v.here ts,y:=⟨0,[],0,0⟩,args:=(V.list ts true (v.named ts true)).1},(V.list ts true (v.named ts true)).2)
  else if(v.named ts true).at ts [46]=true then({d with mark:=(v.here ts).at_,op:=4,y:=v.here ts,field:=(V.side ts (v.named ts true)).1},(V.side ts (v.named ts true)).2)
  else Hd.sum ts {d with mark:=(v.here ts).at_,op:=1,y:=v.here ts} (v.named ts true):=by
 have h1:∀t,v.at ts t=false:=fun t=>by unfold V.at;simp[h]
 unfold Hd.right
 simp[h1,h]
theorem Hd.right_bad{ts:List aI}{v:V}(d:Hd)(h:(v.here ts).k=97)(hb:(v.named ts true).ok=false):(Hd.right ts d v).2=v.named ts true:=by
 rw[Hd.right_name d h]
 repeat' split
 all_goals simp[V.list_no hb,V.side_no hb,Hd.sum_no hb]
theorem rE(ts:List aI)(d:Hd)(v:V):(Hd.sum ts d v).1.op=d.op∧(Hd.sum ts d v).1.x=d.x∧(Hd.sum ts d v).1.y=d.y∧(Hd.sum ts d v).1.at_=d.at_∧(Hd.sum ts d v).1.field=d.field∧(Hd.sum ts d v).1.f=d.f:=by
 unfold Hd.sum
 split<;>simp
theorem pK{ts:List aI}{d:Hd}{u:V}{t:aI}(m:Nat)(hd:ta d):em (Hd.sum ts {d with mark:=m,op:=1,y:=t} u).1={eT d with kind:=1,op:=oW (Hd.sum ts {d with mark:=m,op:=1,y:=t} u).1.bin}∧bD (Hd.sum ts {d with mark:=m,op:=1,y:=t} u).1=t::lS (Hd.sum ts {d with mark:=m,op:=1,y:=t} u).1:=by
 obtain⟨a1,a2,a3,a4,a5,a6⟩:=rE ts {d with mark:=m,op:=1,y:=t} u
 constructor
 ·unfold em
  rw[a1,a2,a3,a4,a5,a6,hd.field,hd.f]
  simp[eT,eC]
 ·unfold bD
  rw[a1,a3]
  simp
theorem gV{w:World}{B e size:Nat}(g:Nat)(hg:w.heap.size=g)(A:Array Value)(xs:List Value)(hs:xs.length=1*size)(hx:A.toList=xs)(hB:B≤g):(w.alloc (.cells A e)).ownsRow B e size (.slice (some ⟨g,0,none⟩) 1 1) 1 xs:=by
 subst hg;exact jR A xs hs hx hB
theorem V.side_eq(ts:List aI)(v:V):V.side ts v=(((v.go1 ts).here ts).text,V.sideV ts (v.go1 ts)):=rfl
theorem V.sideV_no{ts:List aI}{v:V}(h:v.ok=false):V.sideV ts v=v:=by unfold V.sideV;rw[V.named_no h,V.flt_no h,ite_self]
section
variable {w:World} {br bw bs:Nat} {s:ByteArray} {ts:List aI} {v:V} {dep:Nat} {sb:Value}
theorem mZ(h:RV w br bw s ts v dep)(hk:(v.here ts).k=97)(d:Hd)(hd:ta d)(hS:an w bs (aK (eT d) aN sb))(h1:bs≠br)(h2:bs≠bw):
  Calls Tryz.prog 207 #[.pointer (some ⟨br,0,none⟩),.pointer (some ⟨bs,0,none⟩)] w fun r w'=>mV (eP br bw bs) w w' br bw s ts (Hd.right ts d v).2 dep r (fun r w'=>r=.returned (.tuple #[])∧Au w' w.heap.size bs (em (Hd.right ts d v).1) (bD (Hd.right ts d v).1) sb):=by
 have hlb:=hS.lt
 have hbr:=h.rb.lt
 have hbw:=h.wb.lt
 have HNT:Hid (¬eZ br bw bs):=fun e=>by rcases e with e|e<;>contradiction
 have HTW:Hid (∀i,eZ br bw i→i< w.heap.size):=fun i e=>by rcases e with e|e<;>omega
 have HV0:=aa h
 have HS0:=aa hS
 have HK0:=aa (ae.refl (eP br bw bs) w)
 have HD:=aa hd
 have HFX:Hid True:=trivial
 have HR:=aa (Hd.right_name d hk)
 have HNN:=aa (V.named_num hk)
 have HK97:=aa hk
 clear h hS hd hk
 go_enter Tryz.func207,Tryz.ntmps207
 go_wp2_with fail
 refine(gU HV0.out).mono ?_
 rw[HNN.out]
 rintro e w1 ⟨hk,hx⟩
 have HK1:=aa (HK0.out.trans hk.thr2)
 have HS1:=aa (HS0.out.kept hk HNT.out)
 clear hk
 rcases hx with⟨h3,h4,rfl⟩|⟨h3,b,rfl,h4⟩
 case inr=>
  have HO:Hid ((v.named ts true).ok=false∧an w1 b #[.int .i64 (v.named ts true).e,.int .i64 (v.named ts true).a]):=⟨h3,h4⟩
  clear h3 h4
  go_wp2_with fail
  have e:(Hd.right ts d v).2=v.named ts true:=Hd.right_bad d HK97.out HO.out.1
  rw[e]
  exact⟨rfl,HK1.out,Or.inr ⟨HO.out.1,b,rfl,HO.out.2⟩⟩
 case inl=>
 have HV1:=aa h4
 clear h3 h4
 generalize hu:v.named ts true=u at *
 clear hu
 generalize htt:v.here ts=t at *
 clear htt
 have hz1:=HK1.out.size
 obtain⟨w2,hw⟩:∃x,x=w1.alloc (.cells (tA t) 96):=⟨_,rfl⟩
 have HV2:Hid (RV w2 br bw s ts u dep):=by show RV _ _ _ _ _ _ _;rw[hw];exact HV1.out.below ((Below.refl _ _).alloc (Nat.le_refl _) _)
 have HS2:Hid (an w2 bs (aK (eT d) aN sb)):=by show an _ _ _;rw[hw];exact HS1.out.alloc _
 have HK2:Hid (ae (eP br bw bs) w w2):=by show ae _ _ _;rw[hw];exact HK1.out.alloc _
 have HNM2:Hid (an w2 w1.heap.size (tA t)):=by show an _ _ _;rw[hw];exact an.new _ _ _
 replace hw:=aa hw
 unfold eW
 go_wp2_with fail
 rw[←hw.out]
 clear hw
 have hz2:=HK2.out.size
 have hl1:=HNM2.out.lt
 cases hat:u.at ts [40]
 ·have HAT:=aa hat
  clear hat
  refine(pE HV2.out ⟨#[40]⟩).mono ?_
  rintro e wq ⟨rfl,hq⟩
  subst wq
  rw[show V.at ts u (ByteArray.mk #[40]).data.toList=false from HAT.out]
  go_wp2_with fail
  cases hdot:u.at ts [46]
  ·have HDOT:=aa hdot
   clear hdot
   have HFIN:Hid (Hd.right ts d v=Hd.sum ts {d with mark:=t.at_,op:=1,y:=t} u):=by show _=_;rw[HR.out,if_neg (by simp[HAT.out]),if_neg (by simp[HDOT.out])]
   refine(bU HV2.out ⟨#[46]⟩ HDOT.out).mono ?_
   rintro e wq ⟨rfl,hq⟩
   subst wq
   have n0:=HNM2.out.cell 0
   have n1:=HNM2.out.cell 1
   have n2:=HNM2.out.cell 2
   go_wp2_with fail
   rw[←sE HK97.out]
   refine(AW HV2.out t {d with mark:=t.at_,op:=1,y:=t} HD.out.bin HS2.out h1 h2 ⟨_,_,_,rfl⟩ rfl).mono ?_
   have HTP:=aa (pK (ts:=ts) (u:=u) (t:=t) t.at_ HD.out)
   generalize hsm:Hd.sum ts {d with mark:=t.at_,op:=1,y:=t} u=S at *
   clear hsm
   rintro e w3 ⟨hk,hx⟩
   have HK3:=aa (HK2.out.trans hk)
   clear hk n0 n1 n2
   rcases hx with⟨h3,h4,rfl,sr3,h5,h6⟩|⟨h3,b,rfl,h4⟩
   ·have HX:=aa (And.intro h3 (And.intro h4 (And.intro h5 (bz h6 hz2))))
    clear h3 h4 h5 h6
    go_wp2_with fail
    first|go_end0|refine bodyPost_ret (results_none rfl _ _ _) rfl ?_
    rw[HFIN.out]
    exact⟨HK3.out,Or.inl ⟨HX.out.1,HX.out.2.1,rfl,sr3,by rw[HTP.out.1];exact HX.out.2.2.1,by rw[HTP.out.2];exact HX.out.2.2.2⟩⟩
   ·have HO:Hid (S.2.ok=false∧an w3 b #[.int .i64 S.2.e,.int .i64 S.2.a]):=⟨h3,h4⟩
    clear h3 h4
    go_wp2_with fail
    rw[HFIN.out]
    exact⟨rfl,HK3.out,Or.inr ⟨HO.out.1,b,rfl,HO.out.2⟩⟩
  ·have HDOT:=aa hdot
   clear hdot
   have HFIN:Hid (Hd.right ts d v=({d with mark:=t.at_,op:=4,y:=t,field:=((u.go1 ts).here ts).text},V.sideV ts (u.go1 ts))):=by show _=_;rw[HR.out,if_neg (by simp[HAT.out]),if_pos HDOT.out,V.side_eq]
   refine(aZ HV2.out ⟨#[46]⟩ HDOT.out).mono ?_
   rintro e w3 ⟨hk,hx⟩
   have HK3:=aa (HK2.out.trans hk.thr2)
   have HS3:=aa (HS2.out.kept hk HNT.out)
   have HNM3:=aa (HNM2.out.kept hk (fun e=>by rcases e with e|e<;>omega))
   clear hk
   rcases hx with⟨h3,h4,rfl⟩|⟨h3,b,rfl,h4⟩
   case inr=>
    have HO:Hid ((u.go1 ts).ok=false∧an w3 b #[.int .i64 (u.go1 ts).e,.int .i64 (u.go1 ts).a]):=⟨h3,h4⟩
    clear h3 h4
    go_wp2_with fail
    rw[HFIN.out]
    simp only[V.sideV_no HO.out.1]
    exact⟨rfl,HK3.out,Or.inr ⟨HO.out.1,b,rfl,HO.out.2⟩⟩
   case inl=>
   have HV3:=aa h4
   clear h3 h4
   generalize hu1:u.go1 ts=u1 at *
   clear hu1
   have hz3:=HK3.out.size
   have hl3:=HS3.out.lt
   obtain⟨w4,hw⟩:∃x,x=((w3.setCell ⟨bs,2,none⟩ (.int .i64 4)).setCell ⟨bs,12,none⟩ (.slice (some ⟨w3.heap.size,0,none⟩) 1 1)).alloc (.cells #[.string ⟨t.text.toArray⟩,.int .i64 t.at_,.int .i64 0,.int .i64 0] 193):=⟨_,rfl⟩
   have HV4:Hid (RV w4 br bw s ts u1 dep):=by show RV _ _ _ _ _ _ _;rw[hw];exact((HV3.out.setO bs 2 _ h1 h2).setO bs 12 _ h1 h2).below ((Below.refl _ _).alloc (Nat.le_refl _) _)
   have HS4:Hid (an w4 bs (aK {eT d with kind:=4} (.slice (some ⟨w3.heap.size,0,none⟩) 1 1) sb)):=by show an _ _ _;rw[hw];exact((HS3.out.pkind 4 4 rfl).pright _).alloc _
   have HK4:Hid (ae (eP br bw bs) w w4):=by show ae _ _ _;rw[hw];exact((HK3.out.thrS 2 _).thrS 12 _).alloc _
   have HOW4:Hid (w4.ownsRow w.heap.size 193 4 (.slice (some ⟨w3.heap.size,0,none⟩) 1 1) 1 (db [t])):=by show World.ownsRow _ _ _ _ _ _ _;rw[hw];exact gV (w:=(w3.setCell ⟨bs,2,none⟩ (.int .i64 4)).setCell ⟨bs,12,none⟩ (.slice (some ⟨w3.heap.size,0,none⟩) 1 1)) w3.heap.size (by simp[World.setCell]) _ _ (by simp[db,gC]) (by simp[db,mK HK97.out]) hz3
   replace hw:=aa hw
   have n0:=HNM3.out.cell 0
   have n1:=HNM3.out.cell 1
   have n2:=HNM3.out.cell 2
   have c2:w3.cell? ⟨bs,2,none⟩=some (.int .i64 0):=HS3.out.cell 2
   have c12:w3.cell? ⟨bs,12,none⟩=some aN:=HS3.out.cell 12
   have cf:=HS3.out.fz
   have hnb:w1.heap.size≠bs:=by omega
   go_wp2_with fail
   rw[←hw.out]
   clear hw n0 n1 n2 c2 c12 cf
   refine(yU HV4.out).mono ?_
   rintro e w5 ⟨hk,hx⟩
   have HK5:=aa (HK4.out.trans hk.thr2)
   have HS5:=aa (HS4.out.kept hk HNT.out)
   have HOW5:=aa (aU HOW4.out hk HTW.out)
   clear hk
   rcases hx with⟨h3,h4,rfl⟩|⟨h3,b,rfl,h4⟩
   ·have HX:=aa (And.intro h3 h4)
    have c7:w5.cell? ⟨bs,7,none⟩=some (.int .i64 0):=HS5.out.cell 7
    have cf:=HS5.out.fz
    clear h3 h4
    go_wp2_with fail
    first|go_end0|refine bodyPost_ret (results_none rfl _ _ _) rfl ?_
    rw[HFIN.out]
    refine⟨HK5.out.thrS 7 _,Or.inl ⟨HX.out.1,HX.out.2.setO bs 7 _ h1 h2,rfl,.slice (some ⟨w3.heap.size,0,none⟩) 1 1,?_,?_⟩⟩
    ·have e:em {d with mark:=t.at_,op:=4,y:=t,field:=(u1.here ts).text}={eT d with kind:=4,side:=eC (u1.here ts).text}:=by simp[em,eT,oW,HD.out.bin,HD.out.f]
     rw[e];exact HS5.out.pside _
    ·have e:bD {d with mark:=t.at_,op:=4,y:=t,field:=(u1.here ts).text}=[t]:=by simp[bD,lS,HD.out.bin]
     rw[e];exact aJ HOW5.out _ _ hlb
   ·have HO:Hid ((V.sideV ts u1).ok=false∧an w5 b #[.int .i64 (V.sideV ts u1).e,.int .i64 (V.sideV ts u1).a]):=⟨h3,h4⟩
    clear h3 h4
    go_wp2_with fail
    rw[HFIN.out]
    exact⟨rfl,HK5.out,Or.inr ⟨HO.out.1,b,rfl,HO.out.2⟩⟩
 ·have HAT:=aa hat
  clear hat
  have HFIN:Hid (Hd.right ts d v=({d with mark:=t.at_,op:=11,f:=t,y:=⟨0,[],0,0⟩,args:=(V.list ts true u).1},(V.list ts true u).2)):=by show _=_;rw[HR.out,if_pos HAT.out]
  refine(pE HV2.out ⟨#[40]⟩).mono ?_
  rintro e wq ⟨rfl,hq⟩
  subst wq
  rw[show V.at ts u (ByteArray.mk #[40]).data.toList=true from HAT.out]
  have n0:=HNM2.out.cell 0
  have n1:=HNM2.out.cell 1
  have n2:=HNM2.out.cell 2
  go_wp2_with fail
  refine(vK HV2.out t HS2.out h1 h2).mono ?_
  rintro e w3 ⟨hk,hx⟩
  have HK3:=aa (HK2.out.trans hk)
  clear hk n0 n1 n2
  rcases hx with⟨h3,h4,rfl,sr3,h5,h6⟩|⟨h3,b,rfl,h4⟩
  ·have HX:=aa (And.intro h3 (And.intro h4 (And.intro h5 (bz h6 hz2))))
   clear h3 h4 h5 h6
   go_wp2_with fail
   first|go_end0|refine bodyPost_ret (results_none rfl _ _ _) rfl ?_
   rw[HFIN.out]
   refine⟨HK3.out,Or.inl ⟨HX.out.1,HX.out.2.1,rfl,sr3,?_,?_⟩⟩
   ·have e:em {d with mark:=t.at_,op:=11,f:=t,y:=⟨0,[],0,0⟩,args:=(V.list ts true u).1}={eT d with kind:=11,nt:=t.text,na:=t.at_,nn:=0}:=by simp[em,eT,oW,eC,HD.out.bin,HD.out.field]
    rw[e];exact HX.out.2.2.1
   ·have e:bD {d with mark:=t.at_,op:=11,f:=t,y:=⟨0,[],0,0⟩,args:=(V.list ts true u).1}=(V.list ts true u).1:=by simp[bD]
    rw[e];exact HX.out.2.2.2
  ·have HO:Hid ((V.list ts true u).2.ok=false∧an w3 b #[.int .i64 (V.list ts true u).2.e,.int .i64 (V.list ts true u).2.a]):=⟨h3,h4⟩
   clear h3 h4
   go_wp2_with fail
   rw[HFIN.out]
   exact⟨rfl,HK3.out,Or.inr ⟨HO.out.1,b,rfl,HO.out.2⟩⟩
end
end
section
set_option maxRecDepth 100000
set_option maxHeartbeats 4000000
open Go.RowKit
theorem Hd.right_go{ts:List aI}{v:V}(d:Hd)(h:v.at ts [103,111]=true):Hd.right ts d v=({d with mark:=(v.here ts).at_,op:=7,f:=(v.go1 ts).here ts,args:=(V.list ts true ((v.go1 ts).named ts false)).1},(V.list ts true ((v.go1 ts).named ts false)).2):=by
 have hn:v.at ts [110,101,119]=false:=by
  unfold V.at at h⊢
  simp at h⊢
  intro _ e
  rw[h.2]at e;revert e;decide
 unfold Hd.right
 simp[hn,h]
theorem Hd.right_new{ts:List aI}{v:V}(d:Hd)(h:v.at ts [110,101,119]=true):Hd.right ts d v=({d with mark:=(v.here ts).at_,op:=6},v.go1 ts):=by
 unfold Hd.right
 simp[h]
theorem Hd.right_atom{ts:List aI}{v:V}(d:Hd)(h1:v.at ts [103,111]=false)(h2:v.at ts [110,101,119]=false)(h:(v.here ts).k≠97):Hd.right ts d v=Hd.sum ts {d with mark:=(v.here ts).at_,op:=1,y:=v.here ts} (v.named ts true):=by
 unfold Hd.right
 simp[h1,h2,h]
theorem Hd.simple_bad{ts:List aI}{v:V}(d:Hd)(hb:(v.named ts false).ok=false):(Hd.simple ts d v).2=v.named ts false:=by
 unfold Hd.simple
 repeat' split
 all_goals simp[V.list_no hb,V.side_no hb,V.must_no hb,V.named_no hb,Hd.right_no hb]
theorem RV.nameB{w:World}{br bw:Nat}{s:ByteArray}{ts:List aI}{v:V}{dep:Nat}(h:RV w br bw s ts v dep):((ez (v.here ts).k:Int)==1)=((v.here ts).k==97):=by
 rcases h.kinds with e|e|e|e|e<;>rw[e]<;>rfl
section
variable {w:World} {br bw bs:Nat} {s:ByteArray} {ts:List aI} {v:V} {dep:Nat} {sb:Value}
theorem tY(h:RV w br bw s ts v dep)(d:Hd)(hd:ta d)(hS:an w bs (aK (eT d) aN sb))(h1:bs≠br)(h2:bs≠bw):
  Calls Tryz.prog 184 #[.pointer (some ⟨br,0,none⟩),.pointer (some ⟨bs,0,none⟩)] w fun r w'=>mV (eP br bw bs) w w' br bw s ts (Hd.right ts d v).2 dep r (fun r w'=>r=.returned (.tuple #[])∧Au w' w.heap.size bs (em (Hd.right ts d v).1) (bD (Hd.right ts d v).1) sb):=by
 have hlb:=hS.lt
 have hbr:=h.rb.lt
 have hbw:=h.wb.lt
 have HNT:Hid (¬eZ br bw bs):=fun e=>by rcases e with e|e<;>contradiction
 have HTW:Hid (∀i,eZ br bw i→i< w.heap.size):=fun i e=>by rcases e with e|e<;>omega
 have HV0:=aa h
 have HS0:=aa hS
 have HK0:=aa (ae.refl (eP br bw bs) w)
 have HD:=aa hd
 have HFX:Hid True:=trivial
 have c1:=h.rb.cell 1
 have c1':w.cell? ⟨br,1+0,none⟩=some (.int .i64 (ez (v.here ts).k)):=h.rb.cell 1
 have c3:=h.rb.cell 3
 have c3':w.cell? ⟨br,1+2,none⟩=some (.int .i64 (v.here ts).at_):=h.rb.cell 3
 have hnb:=h.nameB
 have c2:w.cell? ⟨bs,2,none⟩=some (.int .i64 0):=hS.cell 2
 have c8:w.cell? ⟨bs,8,none⟩=some (.int .i64 0):=hS.cell 8
 have cf:=hS.fz
 clear h hS hd
 go_enter Tryz.func184,Tryz.ntmps184
 go_wp2_with fail
 cases hgo:v.at ts [103,111]
 case true=>
  have HV0AT103_111:=aa hgo
  have HFIN:=aa (Hd.right_go d hgo)
  have HOP:=aa (V.at_open hgo)
  clear hgo c1 c1' c3 c3' hnb c2 c8 cf
  refine(pE HV0.out ⟨#[103,111]⟩).mono ?_
  rintro e wq ⟨rfl,hq⟩
  subst wq
  rw[show V.at ts v (ByteArray.mk #[103,111]).data.toList=true from HV0AT103_111.out]
  go_wp2_with fail
  refine(vI HV0.out HS0.out h1 h2 HOP.out).mono ?_
  rintro e w1 ⟨hk,hx⟩
  have HK1:=aa (HK0.out.trans hk)
  clear hk
  rcases hx with⟨h3,h4,rfl,sr3,h5,h6⟩|⟨h3,b,rfl,h4⟩
  ·have HX:=aa (And.intro h3 (And.intro h4 (And.intro h5 (bz h6 HK0.out.size))))
   clear h3 h4 h5 h6
   go_wp2_with fail
   first|go_end0|refine bodyPost_ret (results_none rfl _ _ _) rfl ?_
   rw[HFIN.out]
   refine⟨HK1.out,Or.inl ⟨HX.out.1,HX.out.2.1,rfl,sr3,?_,?_⟩⟩
   ·have e:em {d with mark:=(v.here ts).at_,op:=7,f:=(v.go1 ts).here ts,args:=(V.list ts true ((v.go1 ts).named ts false)).1}={eT d with kind:=7,wa:=(v.here ts).at_,nt:=((v.go1 ts).here ts).text,na:=((v.go1 ts).here ts).at_,nn:=0}:=by simp[em,eT,oW,eC,HD.out.bin,HD.out.field]
    rw[e];exact HX.out.2.2.1
   ·have e:bD {d with mark:=(v.here ts).at_,op:=7,f:=(v.go1 ts).here ts,args:=(V.list ts true ((v.go1 ts).named ts false)).1}=(V.list ts true ((v.go1 ts).named ts false)).1:=by simp[bD]
    rw[e];exact HX.out.2.2.2
  ·have HO:Hid (((V.list ts true ((v.go1 ts).named ts false)).2).ok=false∧an w1 b #[.int .i64 ((V.list ts true ((v.go1 ts).named ts false)).2).e,.int .i64 ((V.list ts true ((v.go1 ts).named ts false)).2).a]):=⟨h3,h4⟩
   clear h3 h4
   go_wp2_with fail
   rw[HFIN.out]
   exact⟨rfl,HK1.out,Or.inr ⟨HO.out.1,b,rfl,HO.out.2⟩⟩
 case false=>
 have HV0AT103_111:=aa hgo
 clear hgo
 refine(pE HV0.out ⟨#[103,111]⟩).mono ?_
 rintro e wq ⟨rfl,hq⟩
 subst wq
 rw[show V.at ts v (ByteArray.mk #[103,111]).data.toList=false from HV0AT103_111.out]
 go_wp2_with fail
 cases hnew:v.at ts [110,101,119]
 case true=>
  have HV0AT110_119:=aa hnew
  have HFIN:=aa (Hd.right_new d hnew)
  have HOP:=aa (V.at_open hnew)
  clear hnew
  refine(pE HV0.out ⟨#[110,101,119]⟩).mono ?_
  rintro e wq ⟨rfl,hq⟩
  subst wq
  rw[show V.at ts v (ByteArray.mk #[110,101,119]).data.toList=true from HV0AT110_119.out]
  obtain⟨w1,hw⟩:∃x,x=(w.setCell ⟨bs,2,none⟩ (.int .i64 6)).setCell ⟨bs,8,none⟩ (.int .i64 (v.here ts).at_):=⟨_,rfl⟩
  have HV1:Hid (RV w1 br bw s ts v dep):=by show RV _ _ _ _ _ _ _;rw[hw];exact(HV0.out.setO bs 2 _ h1 h2).setO bs 8 _ h1 h2
  have HS1:Hid (an w1 bs (aK {eT d with kind:=6,wa:=(v.here ts).at_} aN sb)):=by show an _ _ _;rw[hw];exact(HS0.out.pkind 6 6 rfl).pwa _
  have HK1:Hid (ae (eP br bw bs) w w1):=by show ae _ _ _;rw[hw];exact(HK0.out.thrS 2 _).thrS 8 _
  replace hw:=aa hw
  have hbs:br≠bs:=fun e=>h1 e.symm
  go_wp2_with fail
  rw[←hw.out]
  clear hw c1 c1' c3 c3' hnb c2 c8 cf
  refine(nZ HV1.out HOP.out).mono ?_
  rintro e w2 ⟨hk,hx⟩
  have HK2:=aa (HK1.out.trans hk.thr2)
  have HS2:=aa (HS1.out.kept hk HNT.out)
  clear hk
  rcases hx with⟨h3,h4,rfl⟩|⟨h3,b,rfl,h4⟩
  case inr=>
   have HO:Hid ((v.go1 ts).ok=false∧an w2 b #[.int .i64 (v.go1 ts).e,.int .i64 (v.go1 ts).a]):=⟨h3,h4⟩
   clear h3 h4
   go_wp2_with fail
   rw[HFIN.out]
   exact⟨rfl,HK2.out,Or.inr ⟨HO.out.1,b,rfl,HO.out.2⟩⟩
  case inl=>
  have HV2:=aa h4
  have HB2:=aa h3
  clear h3 h4
  go_wp2_with fail
  first|go_end0|refine bodyPost_ret (results_none rfl _ _ _) rfl ?_
  rw[HFIN.out]
  refine⟨HK2.out,Or.inl ⟨HB2.out,HV2.out,rfl,aN,?_,?_⟩⟩
  ·have e:em {d with mark:=(v.here ts).at_,op:=6}={eT d with kind:=6,wa:=(v.here ts).at_}:=by simp[em,eT,oW,eC,HD.out.bin,HD.out.field,HD.out.f]
   rw[e];exact HS2.out
  ·have e:bD {d with mark:=(v.here ts).at_,op:=6}=[]:=by simp[bD]
   rw[e];exact World.ownsRow_nil _ _ _ _
 case false=>
 have HV0AT110_119:=aa hnew
 clear hnew
 refine(pE HV0.out ⟨#[110,101,119]⟩).mono ?_
 rintro e wq ⟨rfl,hq⟩
 subst wq
 rw[show V.at ts v (ByteArray.mk #[110,101,119]).data.toList=false from HV0AT110_119.out]
 cases hk:((v.here ts).k==97)
 case true=>
  rw[hk]at hnb
  have HK97:Hid ((v.here ts).k=97):=beq_iff_eq.1 hk
  clear hk
  go_wp2_with fail
  clear c1 c1' c3 c3' hnb c2 c8 cf
  refine(mZ HV0.out HK97.out d HD.out HS0.out h1 h2).mono ?_
  rintro e w1 ⟨hk,hx⟩
  have HK1:=aa (HK0.out.trans hk)
  clear hk
  rcases hx with⟨h3,h4,rfl,sr3,h5,h6⟩|⟨h3,b,rfl,h4⟩
  ·have HX:=aa (And.intro h3 (And.intro h4 (And.intro h5 (bz h6 HK0.out.size))))
   clear h3 h4 h5 h6
   go_wp2_with fail
   first|go_end0|refine bodyPost_ret (results_none rfl _ _ _) rfl ?_
   exact⟨HK1.out,Or.inl ⟨HX.out.1,HX.out.2.1,rfl,sr3,HX.out.2.2.1,HX.out.2.2.2⟩⟩
  ·have HO:Hid (((Hd.right ts d v).2).ok=false∧an w1 b #[.int .i64 ((Hd.right ts d v).2).e,.int .i64 ((Hd.right ts d v).2).a]):=⟨h3,h4⟩
   clear h3 h4
   go_wp2_with fail
   exact⟨rfl,HK1.out,Or.inr ⟨HO.out.1,b,rfl,HO.out.2⟩⟩
 case false=>
  rw[hk]at hnb
  have HFIN:=aa (Hd.right_atom d HV0AT103_111.out HV0AT110_119.out (beq_eq_false_iff_ne.1 hk))
  clear hk
  go_wp2_with fail
  clear c1 c1' c3 c3' hnb c2 c8 cf
  refine(iO HV0.out).mono ?_
  rintro e w1 ⟨hk,hx⟩
  have HK1:=aa (HK0.out.trans hk.thr2)
  have HS1:=aa (HS0.out.kept hk HNT.out)
  clear hk
  rcases hx with⟨h3,h4,rfl⟩|⟨h3,b,rfl,h4⟩
  case inr=>
   have HO:Hid ((v.named ts true).ok=false∧an w1 b #[.int .i64 (v.named ts true).e,.int .i64 (v.named ts true).a]):=⟨h3,h4⟩
   clear h3 h4
   go_wp2_with fail
   rw[HFIN.out,Hd.sum_no HO.out.1]
   exact⟨rfl,HK1.out,Or.inr ⟨HO.out.1,b,rfl,HO.out.2⟩⟩
  case inl=>
  have HV1:=aa h4
  have HB1:=aa h3
  clear h3 h4
  have HTP:=aa (pK (ts:=ts) (u:=v.named ts true) (t:=v.here ts) (v.here ts).at_ HD.out)
  generalize hsm:Hd.sum ts {d with mark:=(v.here ts).at_,op:=1,y:=v.here ts} (v.named ts true)=S at *
  replace hsm:=aa hsm
  go_wp2_with fail
  refine(AW HV1.out (v.here ts) {d with mark:=(v.here ts).at_,op:=1,y:=v.here ts} HD.out.bin HS1.out h1 h2 ⟨_,_,_,rfl⟩ rfl).mono ?_
  rw[hsm.out]
  rintro e w2 ⟨hk,hx⟩
  have HK2:=aa (HK1.out.trans hk)
  clear hk
  rcases hx with⟨h3,h4,rfl,sr3,h5,h6⟩|⟨h3,b,rfl,h4⟩
  ·have HX:=aa (And.intro h3 (And.intro h4 (And.intro h5 (bz h6 HK1.out.size))))
   clear h3 h4 h5 h6
   go_wp2_with fail
   first|go_end0|refine bodyPost_ret (results_none rfl _ _ _) rfl ?_
   rw[HFIN.out]
   exact⟨HK2.out,Or.inl ⟨HX.out.1,HX.out.2.1,rfl,sr3,by rw[HTP.out.1];exact HX.out.2.2.1,by rw[HTP.out.2];exact HX.out.2.2.2⟩⟩
  ·have HO:Hid ((S.2).ok=false∧an w2 b #[.int .i64 (S.2).e,.int .i64 (S.2).a]):=⟨h3,h4⟩
   clear h3 h4
   go_wp2_with fail
   rw[HFIN.out]
   exact⟨rfl,HK2.out,Or.inr ⟨HO.out.1,b,rfl,HO.out.2⟩⟩
end
end
section
set_option maxRecDepth 100000
set_option maxHeartbeats 4000000
open Go.RowKit
theorem Hd.simple_call{ts:List aI}{v:V}(d:Hd)(h:(v.named ts false).at ts [40]=true):Hd.simple ts d v=({d with op:=11,f:=v.here ts,args:=(V.list ts true (v.named ts false)).1},(V.list ts true (v.named ts false)).2):=by
 unfold Hd.simple;simp[h]
theorem Hd.simple_dot{ts:List aI}{v:V}(d:Hd)(h:(v.named ts false).at ts [40]=false)(h2:(v.named ts false).at ts [46]=true):Hd.simple ts d v=
  ({d with x:=v.here ts,op:=5,field:=(((v.named ts false).go1 ts).here ts).text,y:=((V.sideV ts ((v.named ts false).go1 ts)).must ts [61]).here ts},((V.sideV ts ((v.named ts false).go1 ts)).must ts [61]).named ts true):=by
 unfold Hd.simple;simp[h,h2,V.side_eq]
theorem Hd.simple_set{ts:List aI}{v:V}(d:Hd)(h:(v.named ts false).at ts [40]=false)(h2:(v.named ts false).at ts [46]=false):Hd.simple ts d v=Hd.right ts {d with x:=v.here ts} ((v.named ts false).must ts [61]):=by
 unfold Hd.simple;simp[h,h2]
section
variable {w:World} {br bw bs:Nat} {s:ByteArray} {ts:List aI} {v:V} {dep:Nat} {sb:Value}
theorem zE(h:RV w br bw s ts v dep)(hx0:True)(d:Hd)(hd:ta d)(hS:an w bs (aK (eT d) aN sb))(h1:bs≠br)(h2:bs≠bw):
  Calls Tryz.prog 127 #[.pointer (some ⟨br,0,none⟩),.pointer (some ⟨bs,0,none⟩)] w fun r w'=>mV (eP br bw bs) w w' br bw s ts (Hd.simple ts d v).2 dep r (fun r w'=>r=.returned (.tuple #[])∧Au w' w.heap.size bs (em (Hd.simple ts d v).1) (bD (Hd.simple ts d v).1) sb):=by
 have hlb:=hS.lt
 have hbr:=h.rb.lt
 have hbw:=h.wb.lt
 have HNT:Hid (¬eZ br bw bs):=fun e=>by rcases e with e|e<;>contradiction
 have HTW:Hid (∀i,eZ br bw i→i< w.heap.size):=fun i e=>by rcases e with e|e<;>omega
 have HV0:=aa h
 have HS0:=aa hS
 have HK0:=aa (ae.refl (eP br bw bs) w)
 have HD:=aa hd
 have HFX:Hid True:=trivial
 have HX0:=aa hx0
 clear h hS hd hx0
 go_enter Tryz.func127,Tryz.ntmps127
 go_wp2_with fail
 refine(gU HV0.out).mono ?_
 rintro e w1 ⟨hk,hx⟩
 have HK1:=aa (HK0.out.trans hk.thr2)
 have HS1:=aa (HS0.out.kept hk HNT.out)
 clear hk
 rcases hx with⟨h3,h4,rfl⟩|⟨h3,b,rfl,h4⟩
 case inr=>
  have HO:Hid ((v.named ts false).ok=false∧an w1 b #[.int .i64 (v.named ts false).e,.int .i64 (v.named ts false).a]):=⟨h3,h4⟩
  clear h3 h4
  go_wp2_with fail
  rw[Hd.simple_bad d HO.out.1]
  exact⟨rfl,HK1.out,Or.inr ⟨HO.out.1,b,rfl,HO.out.2⟩⟩
 case inl=>
 have HV1:=aa h4
 have HB1:=aa h3
 clear h3 h4
 have HCALL:Hid ((v.named ts false).at ts [40]=true→_):=fun e=>Hd.simple_call d e
 have HDOTS:Hid ((v.named ts false).at ts [40]=false→(v.named ts false).at ts [46]=true→_):=fun e e2=>Hd.simple_dot d e e2
 have HSETS:Hid ((v.named ts false).at ts [40]=false→(v.named ts false).at ts [46]=false→_):=fun e e2=>Hd.simple_set d e e2
 generalize hu:v.named ts false=u at *
 clear hu
 generalize htt:v.here ts=t at *
 clear htt
 obtain⟨w2,hw⟩:∃x,x=w1.alloc (.cells (tA t) 96):=⟨_,rfl⟩
 have HV2:Hid (RV w2 br bw s ts u dep):=by show RV _ _ _ _ _ _ _;rw[hw];exact HV1.out.below ((Below.refl _ _).alloc (Nat.le_refl _) _)
 have HS2:Hid (an w2 bs (aK (eT d) aN sb)):=by show an _ _ _;rw[hw];exact HS1.out.alloc _
 have HK2:Hid (ae (eP br bw bs) w w2):=by show ae _ _ _;rw[hw];exact HK1.out.alloc _
 have HNM2:Hid (an w2 w1.heap.size (tA t)):=by show an _ _ _;rw[hw];exact an.new _ _ _
 replace hw:=aa hw
 unfold eW
 have hz1:=HK1.out.size
 go_wp2_with fail
 rw[←hw.out]
 clear hw
 have hl2:=HNM2.out.lt
 cases hc:u.at ts [40]
 case true=>
  have HV2AT40_40:=aa hc
  have HFIN:=aa (HCALL.out hc)
  clear hc
  refine(pE HV2.out ⟨#[40]⟩).mono ?_
  rintro e wq ⟨rfl,hq⟩
  subst wq
  rw[show V.at ts u (ByteArray.mk #[40]).data.toList=true from HV2AT40_40.out]
  have n0:=HNM2.out.cell 0
  have n1:=HNM2.out.cell 1
  have n2:=HNM2.out.cell 2
  go_wp2_with fail
  clear n0 n1 n2
  refine(vK HV2.out t HS2.out h1 h2).mono ?_
  rintro e w3 ⟨hk,hx⟩
  have HK3:=aa (HK2.out.trans hk)
  clear hk
  rcases hx with⟨h3,h4,rfl,sr3,h5,h6⟩|⟨h3,b,rfl,h4⟩
  ·have HX:=aa (And.intro h3 (And.intro h4 (And.intro h5 (bz h6 HK2.out.size))))
   clear h3 h4 h5 h6
   go_wp2_with fail
   first|go_end0|refine bodyPost_ret (results_none rfl _ _ _) rfl ?_
   rw[HFIN.out]
   refine⟨HK3.out,Or.inl ⟨HX.out.1,HX.out.2.1,rfl,sr3,?_,?_⟩⟩
   ·have e:em {d with op:=11,f:=t,args:=(V.list ts true u).1}={eT d with kind:=11,nt:=t.text,na:=t.at_,nn:=0}:=by simp[em,eT,oW,eC,HD.out.bin,HD.out.field]
    rw[e];exact HX.out.2.2.1
   ·have e:bD {d with op:=11,f:=t,args:=(V.list ts true u).1}=(V.list ts true u).1:=by simp[bD]
    rw[e];exact HX.out.2.2.2
  ·have HO:Hid (((V.list ts true u).2).ok=false∧an w3 b #[.int .i64 ((V.list ts true u).2).e,.int .i64 ((V.list ts true u).2).a]):=⟨h3,h4⟩
   clear h3 h4
   go_wp2_with fail
   rw[HFIN.out]
   exact⟨rfl,HK3.out,Or.inr ⟨HO.out.1,b,rfl,HO.out.2⟩⟩
 case false=>
 have HV2AT40_40:=aa hc
 clear hc
 refine(pE HV2.out ⟨#[40]⟩).mono ?_
 rintro e wq ⟨rfl,hq⟩
 subst wq
 rw[show V.at ts u (ByteArray.mk #[40]).data.toList=false from HV2AT40_40.out]
 go_wp2_with fail
 cases hdot:u.at ts [46]
 case false=>
  have HDOT:=aa hdot
  have HFIN:=aa (HSETS.out HV2AT40_40.out hdot)
  clear hdot
  refine(bU HV2.out ⟨#[46]⟩ HDOT.out).mono ?_
  rintro e wq ⟨rfl,hq⟩
  subst wq
  go_wp2_with fail
  refine(fk HV2.out ⟨#[61]⟩).mono ?_
  rintro e w3 ⟨hk,hx⟩
  have HK3:=aa (HK2.out.trans hk.thr2)
  have HS3:=aa (HS2.out.kept hk HNT.out)
  have HNM3:=aa (HNM2.out.kept hk (fun e=>by have:=HTW.out _ e;omega))
  clear hk
  rcases hx with⟨h3,h4,rfl⟩|⟨h3,b,rfl,h4⟩
  case inr=>
   have HO:Hid ((u.must ts [61]).ok=false∧an w3 b #[.int .i64 (u.must ts [61]).e,.int .i64 (u.must ts [61]).a]):=⟨h3,h4⟩
   clear h3 h4
   go_wp2_with fail
   rw[HFIN.out,Hd.right_no HO.out.1]
   exact⟨rfl,HK3.out,Or.inr ⟨HO.out.1,b,rfl,HO.out.2⟩⟩
  case inl=>
  have HV3:=aa h4
  have HB3:=aa h3
  clear h3 h4
  have HV3b:Hid (RV w3 br bw s ts (u.must ts [61]) dep):=HV3.out
  clear HV3
  have HV3:=HV3b
  clear HV3b
  generalize hu3:u.must ts [61]=u3 at *
  clear hu3
  have n0:=HNM3.out.cell 0
  have n1:=HNM3.out.cell 1
  have n2:=HNM3.out.cell 2
  have hz3:=HK3.out.size
  have hl3:=HS3.out.lt
  have c3:w3.cell? ⟨bs,3,none⟩=some (.string ⟨(eT d).lt.toArray⟩):=HS3.out.cell 3
  have c4:w3.cell? ⟨bs,4,none⟩=some (.int .i64 (eT d).la):=HS3.out.cell 4
  have c5:w3.cell? ⟨bs,5,none⟩=some (.int .i64 0):=HS3.out.cell 5
  have cf:=HS3.out.fz
  obtain⟨w4,hw⟩:∃x,x=((w3.setCell ⟨bs,3,none⟩ (.string ⟨t.text.toArray⟩)).setCell ⟨bs,4,none⟩ (.int .i64 t.at_)).setCell ⟨bs,5,none⟩ (.int .i64 0):=⟨_,rfl⟩
  have HV4:Hid (RV w4 br bw s ts u3 dep):=by show RV _ _ _ _ _ _ _;rw[hw];exact((HV3.out.setO bs 3 _ h1 h2).setO bs 4 _ h1 h2).setO bs 5 _ h1 h2
  have HS4:Hid (an w4 bs (aK (eT {d with x:=t}) aN sb)):=by show an _ _ _;rw[hw];exact HS3.out.pleft t.text t.at_ 0 0 rfl
  have HK4:Hid (ae (eP br bw bs) w w4):=by show ae _ _ _;rw[hw];exact((HK3.out.thrS 3 _).thrS 4 _).thrS 5 _
  replace hw:=aa hw
  have hnb:w1.heap.size≠bs:=by omega
  go_wp2_with fail
  rw[←hw.out]
  clear hw n0 n1 n2 c3 c4 c5 cf
  refine(tY HV4.out {d with x:=t} ⟨HD.out.bin,HD.out.field,HD.out.f⟩ HS4.out h1 h2).mono ?_
  rintro e w5 ⟨hk,hx⟩
  have HK5:=aa (HK4.out.trans hk)
  clear hk
  rcases hx with⟨h3,h4,rfl,sr3,h5,h6⟩|⟨h3,b,rfl,h4⟩
  ·have HX:=aa (And.intro h3 (And.intro h4 (And.intro h5 (bz h6 HK4.out.size))))
   clear h3 h4 h5 h6
   go_wp2_with fail
   first|go_end0|refine bodyPost_ret (results_none rfl _ _ _) rfl ?_
   rw[HFIN.out]
   exact⟨HK5.out,Or.inl ⟨HX.out.1,HX.out.2.1,rfl,sr3,HX.out.2.2.1,HX.out.2.2.2⟩⟩
  ·have HO:Hid (((Hd.right ts {d with x:=t} u3).2).ok=false∧an w5 b #[.int .i64 ((Hd.right ts {d with x:=t} u3).2).e,.int .i64 ((Hd.right ts {d with x:=t} u3).2).a]):=⟨h3,h4⟩
   clear h3 h4
   go_wp2_with fail
   rw[HFIN.out]
   exact⟨rfl,HK5.out,Or.inr ⟨HO.out.1,b,rfl,HO.out.2⟩⟩
 case true=>
  have HDOT:=aa hdot
  have HFIN:=aa (HDOTS.out HV2AT40_40.out hdot)
  clear hdot
  refine(aZ HV2.out ⟨#[46]⟩ HDOT.out).mono ?_
  rintro e w3 ⟨hk,hx⟩
  have HK3:=aa (HK2.out.trans hk.thr2)
  have HS3:=aa (HS2.out.kept hk HNT.out)
  have HNM3:=aa (HNM2.out.kept hk (fun e=>by have:=HTW.out _ e;omega))
  clear hk
  rcases hx with⟨h3,h4,rfl⟩|⟨h3,b,rfl,h4⟩
  case inr=>
   have HO:Hid ((u.go1 ts).ok=false∧an w3 b #[.int .i64 (u.go1 ts).e,.int .i64 (u.go1 ts).a]):=⟨h3,h4⟩
   clear h3 h4
   go_wp2_with fail
   rw[HFIN.out]
   simp only[V.sideV_no HO.out.1,V.must_no HO.out.1,V.named_no HO.out.1]
   exact⟨rfl,HK3.out,Or.inr ⟨HO.out.1,b,rfl,HO.out.2⟩⟩
  case inl=>
  have HV3:=aa h4
  have HB3:=aa h3
  clear h3 h4
  generalize hu3:u.go1 ts=u3 at *
  clear hu3
  have n0:=HNM3.out.cell 0
  have n1:=HNM3.out.cell 1
  have n2:=HNM3.out.cell 2
  have hz3:=HK3.out.size
  have hl3:=HS3.out.lt
  have c2:w3.cell? ⟨bs,2,none⟩=some (.int .i64 0):=HS3.out.cell 2
  have c3:w3.cell? ⟨bs,3,none⟩=some (.string ⟨(eT d).lt.toArray⟩):=HS3.out.cell 3
  have c4:w3.cell? ⟨bs,4,none⟩=some (.int .i64 (eT d).la):=HS3.out.cell 4
  have c5:w3.cell? ⟨bs,5,none⟩=some (.int .i64 0):=HS3.out.cell 5
  have cf:=HS3.out.fz
  obtain⟨w4,hw⟩:∃x,x=(((w3.setCell ⟨bs,2,none⟩ (.int .i64 5)).setCell ⟨bs,3,none⟩ (.string ⟨t.text.toArray⟩)).setCell ⟨bs,4,none⟩ (.int .i64 t.at_)).setCell ⟨bs,5,none⟩ (.int .i64 0):=⟨_,rfl⟩
  have HV4:Hid (RV w4 br bw s ts u3 dep):=by show RV _ _ _ _ _ _ _;rw[hw];exact(((HV3.out.setO bs 2 _ h1 h2).setO bs 3 _ h1 h2).setO bs 4 _ h1 h2).setO bs 5 _ h1 h2
  have HS4:Hid (an w4 bs (aK {eT {d with x:=t}with kind:=5} aN sb)):=by show an _ _ _;rw[hw];exact(HS3.out.pkind 5 5 rfl).pleft t.text t.at_ 0 0 rfl
  have HK4:Hid (ae (eP br bw bs) w w4):=by show ae _ _ _;rw[hw];exact(((HK3.out.thrS 2 _).thrS 3 _).thrS 4 _).thrS 5 _
  replace hw:=aa hw
  have hnb:w1.heap.size≠bs:=by omega
  go_wp2_with fail
  rw[←hw.out]
  clear hw n0 n1 n2 c2 c3 c4 c5 cf HNM2 HNM3
  refine(yU HV4.out).mono ?_
  rintro e w5 ⟨hk,hx⟩
  have HK5:=aa (HK4.out.trans hk.thr2)
  have HS5:=aa (HS4.out.kept hk HNT.out)
  clear hk
  rcases hx with⟨h3,h4,rfl⟩|⟨h3,b,rfl,h4⟩
  case inr=>
   have HO:Hid ((V.sideV ts u3).ok=false∧an w5 b #[.int .i64 (V.sideV ts u3).e,.int .i64 (V.sideV ts u3).a]):=⟨h3,h4⟩
   clear h3 h4
   go_wp2_with fail
   rw[HFIN.out]
   simp only[V.must_no HO.out.1,V.named_no HO.out.1]
   exact⟨rfl,HK5.out,Or.inr ⟨HO.out.1,b,rfl,HO.out.2⟩⟩
  case inl=>
  have HV5:=aa h4
  have HB5:=aa h3
  clear h3 h4
  have c7:w5.cell? ⟨bs,7,none⟩=some (.int .i64 0):=HS5.out.cell 7
  have cf:=HS5.out.fz
  generalize hsx:(u3.here ts).text=sx at *
  clear hsx
  generalize hu5:V.sideV ts u3=u5 at *
  clear hu5
  obtain⟨w6,hw⟩:∃x,x=w5.setCell ⟨bs,7,none⟩ (.int .i64 (eC sx)):=⟨_,rfl⟩
  have HV6:Hid (RV w6 br bw s ts u5 dep):=by show RV _ _ _ _ _ _ _;rw[hw];exact HV5.out.setO bs 7 _ h1 h2
  have HS6:Hid (an w6 bs (aK {eT {d with x:=t}with kind:=5,side:=eC sx} aN sb)):=by show an _ _ _;rw[hw];exact HS5.out.pside _
  have HK6:Hid (ae (eP br bw bs) w w6):=by show ae _ _ _;rw[hw];exact HK5.out.thrS 7 _
  replace hw:=aa hw
  go_wp2_with fail
  rw[←hw.out]
  clear hw c7 cf
  refine(fk HV6.out ⟨#[61]⟩).mono ?_
  rintro e w7 ⟨hk,hx⟩
  have HK7:=aa (HK6.out.trans hk.thr2)
  have HS7:=aa (HS6.out.kept hk HNT.out)
  clear hk
  rcases hx with⟨h3,h4,rfl⟩|⟨h3,b,rfl,h4⟩
  case inr=>
   have HO:Hid ((u5.must ts [61]).ok=false∧an w7 b #[.int .i64 (u5.must ts [61]).e,.int .i64 (u5.must ts [61]).a]):=⟨h3,h4⟩
   clear h3 h4
   go_wp2_with fail
   rw[HFIN.out]
   simp only[V.named_no HO.out.1]
   exact⟨rfl,HK7.out,Or.inr ⟨HO.out.1,b,rfl,HO.out.2⟩⟩
  case inl=>
  have HV7:=aa h4
  have HB7:=aa h3
  clear h3 h4
  have HV7b:Hid (RV w7 br bw s ts (u5.must ts [61]) dep):=HV7.out
  clear HV7
  generalize hu7:u5.must ts [61]=u7 at *
  clear hu7
  go_wp2_with fail
  refine(iO HV7b.out).mono ?_
  rintro e w8 ⟨hk,hx⟩
  have HK8:=aa (HK7.out.trans hk.thr2)
  have HS8:=aa (HS7.out.kept hk HNT.out)
  clear hk
  rcases hx with⟨h3,h4,rfl⟩|⟨h3,b,rfl,h4⟩
  case inr=>
   have HO:Hid ((u7.named ts true).ok=false∧an w8 b #[.int .i64 (u7.named ts true).e,.int .i64 (u7.named ts true).a]):=⟨h3,h4⟩
   clear h3 h4
   go_wp2_with fail
   rw[HFIN.out]
   exact⟨rfl,HK8.out,Or.inr ⟨HO.out.1,b,rfl,HO.out.2⟩⟩
  case inl=>
  have HV8:=aa h4
  have HB8:=aa h3
  clear h3 h4
  have c12:w8.cell? ⟨bs,12,none⟩=some aN:=HS8.out.cell 12
  have cf:=HS8.out.fz
  have hz8:=HK8.out.size
  have hl8:=HS8.out.lt
  unfold ef
  go_wp2_with fail
  first|go_end0|refine bodyPost_ret (results_none rfl _ _ _) rfl ?_
  rw[HFIN.out]
  refine⟨(HK8.out.thrS 12 _).alloc _,Or.inl ⟨HB8.out,(HV8.out.setO bs 12 _ h1 h2).below ((Below.refl _ _).alloc (Nat.le_refl _) _),rfl,.slice (some ⟨w8.heap.size,0,none⟩) 1 1,?_,?_⟩⟩
  ·have e:em {d with x:=t,op:=5,field:=sx,y:=u7.here ts}={eT {d with x:=t}with kind:=5,side:=eC sx}:=by simp[em,eT,oW,HD.out.bin,HD.out.f]
   rw[e];exact(HS8.out.pright _).alloc _
  ·have e:bD {d with x:=t,op:=5,field:=sx,y:=u7.here ts}=[u7.here ts]:=by simp[bD,lS,HD.out.bin]
   rw[e];exact gV w8.heap.size (by simp[World.setCell]) _ _ rfl rfl hz8
end
end
section
set_option maxRecDepth 100000
set_option maxHeartbeats 4000000
open Go.RowKit
def cH(ts:List aI)(h:Hd)(v:V):Hd×V:=
 if(v.here ts).text=[108,111,99,107]then({h with op:=9,y:=(v.go1 ts).here ts},(v.go1 ts).named ts false)
 else if(v.here ts).text=[117,110,108,111,99,107]then({h with op:=10,y:=(v.go1 ts).here ts},(v.go1 ts).named ts false)
 else if(v.here ts).text=[106,111,105,110]then({h with op:=8,y:=(v.go1 ts).here ts},(v.go1 ts).named ts false)
 else if(v.here ts).text=[114,101,116,117,114,110]then(if(v.go1 ts).at ts [59]then({h with op:=12},v.go1 ts)else({h with op:=12,has:=true,y:=(v.go1 ts).here ts},(v.go1 ts).named ts true))
 else if(v.here ts).text=[103,111]then({h with op:=7,f:=(v.go1 ts).here ts,args:=(V.list ts true ((v.go1 ts).named ts false)).1},(V.list ts true ((v.go1 ts).named ts false)).2)
 else Hd.simple ts h v
theorem V.named_k{ts:List aI}{v:V}(h:(v.named ts false).ok=true)(hok:v.ok=true):(v.here ts).k=97:=by
 cases hb:v.bad ts false
 ·unfold V.bad at hb
  simpa using hb
 ·rw[V.named_not hok hb,(V.flt_yes hok 5 _ (by decide)).1]at h
  cases h
section
variable {w:World} {br bw bs:Nat} {s:ByteArray} {ts:List aI} {v:V} {dep:Nat} {sb:Value}
theorem RV.noText(h:RV w br bw s ts v dep)(hk:(v.here ts).k=97)(t:aj)(ht:t∈fY):(v.here ts).text≠t:=by
 intro e
 obtain⟨i,_,e2⟩:=V.here_lex h.tk h.lt
 have:=oj s.data.toList i (by rw[←e2,e];exact ht)
 rw[←e2]at this
 omega
theorem xM(h:RV w br bw s ts v dep)(d:Hd)(hd:ta d)(hm:d.mark=(v.here ts).at_)(hh:d.has=false)(hS:an w bs (aK (eT d) aN sb))(h1:bs≠br)(h2:bs≠bw):
  Calls Tryz.prog 81 #[.pointer (some ⟨br,0,none⟩),.pointer (some ⟨bs,0,none⟩)] w fun r w'=>mV (eP br bw bs) w w' br bw s ts (cH ts d v).2 dep r (fun r w'=>r=.returned (.tuple #[])∧Au w' w.heap.size bs (em (cH ts d v).1) (bD (cH ts d v).1) sb):=by
 have hlb:=hS.lt
 have hbr:=h.rb.lt
 have hbw:=h.wb.lt
 have HNT:Hid (¬eZ br bw bs):=fun e=>by rcases e with e|e<;>contradiction
 have HTW:Hid (∀i,eZ br bw i→i< w.heap.size):=fun i e=>by rcases e with e|e<;>omega
 have HV0:=aa h
 have HS0:=aa hS
 have HK0:=aa (ae.refl (eP br bw bs) w)
 have HD:=aa hd
 have HFX:Hid True:=trivial
 have c1:=h.rb.cell 1
 have c1':w.cell? ⟨br,1+0,none⟩=some (.int .i64 (ez (v.here ts).k)):=h.rb.cell 1
 have c3:=h.rb.cell 3
 have c3':w.cell? ⟨br,1+2,none⟩=some (.int .i64 (v.here ts).at_):=h.rb.cell 3
 have hnb:=h.nameB
 have HM:=aa hm
 have HH:=aa hh
 have HTA:Hid (∀u,u∈fY→v.at ts u=decide ((v.here ts).text=u)):=fun u hu=>h.text_at u hu
 have HNO:Hid ((v.here ts).k=97→∀t,t∈fY→(v.here ts).text≠t):=fun e t ht=>h.noText e t ht
 have c2:w.cell? ⟨bs,2,none⟩=some (.int .i64 0):=hS.cell 2
 have cf:=hS.fz
 clear h hS hd hm hh
 cases hk:((v.here ts).k==97)
 case true=>
  have hk2:(v.here ts).k=97:=beq_iff_eq.1 hk
  rw[hk]at hnb
  have HFIN:Hid (cH ts d v=Hd.simple ts d v):=by show _=_;unfold cH;rw[if_neg (HNO.out hk2 [108,111,99,107] (by decide)),if_neg (HNO.out hk2 [117,110,108,111,99,107] (by decide)),if_neg (HNO.out hk2 [106,111,105,110] (by decide)),if_neg (HNO.out hk2 [114,101,116,117,114,110] (by decide)),if_neg (HNO.out hk2 [103,111] (by decide))]
  clear hk hk2
  go_enter Tryz.func81,Tryz.ntmps81
  go_wp2_with fail
  clear c1 c1' c3 c3' hnb c2 cf
  refine(zE HV0.out trivial d HD.out HS0.out h1 h2).mono ?_
  rintro e w1 ⟨hk,hx⟩
  have HK1:=aa (HK0.out.trans hk)
  clear hk
  rcases hx with⟨h3,h4,rfl,sr3,h5,h6⟩|⟨h3,b,rfl,h4⟩
  ·have HX:=aa (And.intro h3 (And.intro h4 (And.intro h5 (bz h6 HK0.out.size))))
   clear h3 h4 h5 h6
   go_wp2_with fail
   first|go_end0|refine bodyPost_ret (results_none rfl _ _ _) rfl ?_
   rw[HFIN.out]
   exact⟨HK1.out,Or.inl ⟨HX.out.1,HX.out.2.1,rfl,sr3,HX.out.2.2.1,HX.out.2.2.2⟩⟩
  ·have HO:Hid (((Hd.simple ts d v).2).ok=false∧an w1 b #[.int .i64 ((Hd.simple ts d v).2).e,.int .i64 ((Hd.simple ts d v).2).a]):=⟨h3,h4⟩
   clear h3 h4
   go_wp2_with fail
   rw[HFIN.out]
   exact⟨rfl,HK1.out,Or.inr ⟨HO.out.1,b,rfl,HO.out.2⟩⟩
 case false=>
 have HNK:Hid ((v.here ts).k≠97):=beq_eq_false_iff_ne.1 hk
 rw[hk]at hnb
 clear hk
 go_enter Tryz.func81,Tryz.ntmps81
 go_wp2_with fail
 clear c1 c1' c3 c3' hnb
 by_cases ego:(v.here ts).text=[103,111]
 case pos=>
  have HE:=aa ego
  have hat:v.at ts [103,111]=true:=by rw[HTA.out _ (by decide)];exact decide_eq_true ego
  have HAT:=aa hat
  have HOP:=aa (V.at_open hat)
  clear ego hat
  have HFIN:Hid (cH ts d v=({d with op:=7,f:=(v.go1 ts).here ts,args:=(V.list ts true ((v.go1 ts).named ts false)).1},(V.list ts true ((v.go1 ts).named ts false)).2)):=by show _=_;unfold cH;rw[HE.out];rfl
  refine(pE HV0.out ⟨#[103,111]⟩).mono ?_
  rintro e wq ⟨rfl,hq⟩
  subst wq
  rw[show V.at ts v (ByteArray.mk #[103,111]).data.toList=true from HAT.out]
  go_wp2_with fail
  refine(vI HV0.out HS0.out h1 h2 HOP.out).mono ?_
  rintro e w1 ⟨hk,hx⟩
  have HK1:=aa (HK0.out.trans hk)
  clear hk
  rcases hx with⟨h3,h4,rfl,sr3,h5,h6⟩|⟨h3,b,rfl,h4⟩
  ·have HX:=aa (And.intro h3 (And.intro h4 (And.intro h5 (bz h6 HK0.out.size))))
   clear h3 h4 h5 h6
   go_wp2_with fail
   first|go_end0|refine bodyPost_ret (results_none rfl _ _ _) rfl ?_
   rw[HFIN.out]
   refine⟨HK1.out,Or.inl ⟨HX.out.1,HX.out.2.1,rfl,sr3,?_,?_⟩⟩
   ·have e:em {d with op:=7,f:=(v.go1 ts).here ts,args:=(V.list ts true ((v.go1 ts).named ts false)).1}={eT d with kind:=7,wa:=(v.here ts).at_,nt:=((v.go1 ts).here ts).text,na:=((v.go1 ts).here ts).at_,nn:=0}:=by simp[em,eT,oW,eC,HD.out.bin,HD.out.field,HM.out]
    rw[e];exact HX.out.2.2.1
   ·have e:bD {d with op:=7,f:=(v.go1 ts).here ts,args:=(V.list ts true ((v.go1 ts).named ts false)).1}=(V.list ts true ((v.go1 ts).named ts false)).1:=by simp[bD]
    rw[e];exact HX.out.2.2.2
  ·have HO:Hid (((V.list ts true ((v.go1 ts).named ts false)).2).ok=false∧an w1 b #[.int .i64 ((V.list ts true ((v.go1 ts).named ts false)).2).e,.int .i64 ((V.list ts true ((v.go1 ts).named ts false)).2).a]):=⟨h3,h4⟩
   clear h3 h4
   go_wp2_with fail
   rw[HFIN.out]
   exact⟨rfl,HK1.out,Or.inr ⟨HO.out.1,b,rfl,HO.out.2⟩⟩
 case neg=>
 have NEgo:=aa ego
 have hat:v.at ts [103,111]=false:=by rw[HTA.out _ (by decide)];exact decide_eq_false ego
 have NAgo:=aa hat
 clear ego hat
 refine(pE HV0.out ⟨#[103,111]⟩).mono ?_
 rintro e wq ⟨rfl,hq⟩
 subst wq
 rw[show V.at ts v (ByteArray.mk #[103,111]).data.toList=false from NAgo.out]
 go_wp2_with fail
 by_cases ejoin:(v.here ts).text=[106,111,105,110]
 case pos=>
  have HE:=aa ejoin
  have hat:v.at ts [106,111,105,110]=true:=by rw[HTA.out _ (by decide)];exact decide_eq_true ejoin
  have HAT:=aa hat
  have HOP:=aa (V.at_open hat)
  clear ejoin hat
  have HFIN:Hid (cH ts d v=({d with op:=8,y:=(v.go1 ts).here ts},(v.go1 ts).named ts false)):=by show _=_;unfold cH;rw[HE.out];rfl
  refine(aZ HV0.out ⟨#[106,111,105,110]⟩ HAT.out).mono ?_
  rintro e w1 ⟨hk,hx⟩
  have HK1:=aa (HK0.out.trans hk.thr2)
  have HS1:=aa (HS0.out.kept hk HNT.out)
  clear hk
  rcases hx with⟨h3,h4,rfl⟩|⟨h3,b,rfl,h4⟩
  case inr=>
   have HO:Hid ((v.go1 ts).ok=false∧an w1 b #[.int .i64 (v.go1 ts).e,.int .i64 (v.go1 ts).a]):=⟨h3,h4⟩
   clear h3 h4
   go_wp2_with fail
   rw[HFIN.out]
   simp only[V.named_no HO.out.1]
   exact⟨rfl,HK1.out,Or.inr ⟨HO.out.1,b,rfl,HO.out.2⟩⟩
  case inl=>
  have HV1:=aa h4
  have HB1:=aa h3
  clear h3 h4
  clear c2 cf
  have c2:w1.cell? ⟨bs,2,none⟩=some (.int .i64 0):=HS1.out.cell 2
  have cf:=HS1.out.fz
  generalize hv1:v.go1 ts=v1 at *
  clear hv1
  obtain⟨w2,hw⟩:∃x,x=w1.setCell ⟨bs,2,none⟩ (.int .i64 8):=⟨_,rfl⟩
  have HV2:Hid (RV w2 br bw s ts v1 dep):=by show RV _ _ _ _ _ _ _;rw[hw];exact HV1.out.setO bs 2 _ h1 h2
  have HS2:Hid (an w2 bs (aK {eT d with kind:=8} aN sb)):=by show an _ _ _;rw[hw];exact HS1.out.pkind 8 8 rfl
  have HK2:Hid (ae (eP br bw bs) w w2):=by show ae _ _ _;rw[hw];exact HK1.out.thrS 2 _
  replace hw:=aa hw
  go_wp2_with fail
  rw[←hw.out]
  clear hw c2 cf
  refine(gU HV2.out).mono ?_
  rintro e w3 ⟨hk,hx⟩
  have HK3:=aa (HK2.out.trans hk.thr2)
  have HS3:=aa (HS2.out.kept hk HNT.out)
  clear hk
  rcases hx with⟨h3,h4,rfl⟩|⟨h3,b,rfl,h4⟩
  case inr=>
   have HO:Hid ((v1.named ts false).ok=false∧an w3 b #[.int .i64 (v1.named ts false).e,.int .i64 (v1.named ts false).a]):=⟨h3,h4⟩
   clear h3 h4
   go_wp2_with fail
   rw[HFIN.out]
   exact⟨rfl,HK3.out,Or.inr ⟨HO.out.1,b,rfl,HO.out.2⟩⟩
  case inl=>
  have HV3:=aa h4
  have HB3:=aa h3
  clear h3 h4
  have HK97:=aa (V.named_k HB3.out HV2.out.ok)
  have c12:w3.cell? ⟨bs,12,none⟩=some aN:=HS3.out.cell 12
  have cf:=HS3.out.fz
  have hz3:=HK3.out.size
  have hl3:=HS3.out.lt
  unfold eW
  go_wp2_with fail
  first|go_end0|refine bodyPost_ret (results_none rfl _ _ _) rfl ?_
  rw[HFIN.out]
  refine⟨(HK3.out.thrS 12 _).alloc _,Or.inl ⟨HB3.out,(HV3.out.setO bs 12 _ h1 h2).below ((Below.refl _ _).alloc (Nat.le_refl _) _),rfl,.slice (some ⟨w3.heap.size,0,none⟩) 1 1,?_,?_⟩⟩
  ·have e:em {d with op:=8,y:=v1.here ts}={eT d with kind:=8}:=by simp[em,eT,oW,eC,HD.out.bin,HD.out.field,HD.out.f]
   rw[e];exact(HS3.out.pright _).alloc _
  ·have e:bD {d with op:=8,y:=v1.here ts}=[v1.here ts]:=by simp[bD,lS,HD.out.bin]
   rw[e];exact gV w3.heap.size (by simp[World.setCell]) _ _ rfl (by simp[db,mK HK97.out]) hz3
 case neg=>
 have NEjoin:=aa ejoin
 have hat:v.at ts [106,111,105,110]=false:=by rw[HTA.out _ (by decide)];exact decide_eq_false ejoin
 have NAjoin:=aa hat
 clear ejoin hat
 refine(bU HV0.out ⟨#[106,111,105,110]⟩ NAjoin.out).mono ?_
 rintro e wq ⟨rfl,hq⟩
 subst wq
 go_wp2_with fail
 by_cases elock:(v.here ts).text=[108,111,99,107]
 case pos=>
  have HE:=aa elock
  have hat:v.at ts [108,111,99,107]=true:=by rw[HTA.out _ (by decide)];exact decide_eq_true elock
  have HAT:=aa hat
  have HOP:=aa (V.at_open hat)
  clear elock hat
  have HFIN:Hid (cH ts d v=({d with op:=9,y:=(v.go1 ts).here ts},(v.go1 ts).named ts false)):=by show _=_;unfold cH;rw[HE.out];rfl
  refine(aZ HV0.out ⟨#[108,111,99,107]⟩ HAT.out).mono ?_
  rintro e w1 ⟨hk,hx⟩
  have HK1:=aa (HK0.out.trans hk.thr2)
  have HS1:=aa (HS0.out.kept hk HNT.out)
  clear hk
  rcases hx with⟨h3,h4,rfl⟩|⟨h3,b,rfl,h4⟩
  case inr=>
   have HO:Hid ((v.go1 ts).ok=false∧an w1 b #[.int .i64 (v.go1 ts).e,.int .i64 (v.go1 ts).a]):=⟨h3,h4⟩
   clear h3 h4
   go_wp2_with fail
   rw[HFIN.out]
   simp only[V.named_no HO.out.1]
   exact⟨rfl,HK1.out,Or.inr ⟨HO.out.1,b,rfl,HO.out.2⟩⟩
  case inl=>
  have HV1:=aa h4
  have HB1:=aa h3
  clear h3 h4
  clear c2 cf
  have c2:w1.cell? ⟨bs,2,none⟩=some (.int .i64 0):=HS1.out.cell 2
  have cf:=HS1.out.fz
  generalize hv1:v.go1 ts=v1 at *
  clear hv1
  obtain⟨w2,hw⟩:∃x,x=w1.setCell ⟨bs,2,none⟩ (.int .i64 9):=⟨_,rfl⟩
  have HV2:Hid (RV w2 br bw s ts v1 dep):=by show RV _ _ _ _ _ _ _;rw[hw];exact HV1.out.setO bs 2 _ h1 h2
  have HS2:Hid (an w2 bs (aK {eT d with kind:=9} aN sb)):=by show an _ _ _;rw[hw];exact HS1.out.pkind 9 9 rfl
  have HK2:Hid (ae (eP br bw bs) w w2):=by show ae _ _ _;rw[hw];exact HK1.out.thrS 2 _
  replace hw:=aa hw
  go_wp2_with fail
  rw[←hw.out]
  clear hw c2 cf
  refine(gU HV2.out).mono ?_
  rintro e w3 ⟨hk,hx⟩
  have HK3:=aa (HK2.out.trans hk.thr2)
  have HS3:=aa (HS2.out.kept hk HNT.out)
  clear hk
  rcases hx with⟨h3,h4,rfl⟩|⟨h3,b,rfl,h4⟩
  case inr=>
   have HO:Hid ((v1.named ts false).ok=false∧an w3 b #[.int .i64 (v1.named ts false).e,.int .i64 (v1.named ts false).a]):=⟨h3,h4⟩
   clear h3 h4
   go_wp2_with fail
   rw[HFIN.out]
   exact⟨rfl,HK3.out,Or.inr ⟨HO.out.1,b,rfl,HO.out.2⟩⟩
  case inl=>
  have HV3:=aa h4
  have HB3:=aa h3
  clear h3 h4
  have c9:w3.cell? ⟨bs,9,none⟩=some (.string ⟨#[]⟩):=HS3.out.cell 9
  have c10:w3.cell? ⟨bs,10,none⟩=some (.int .i64 0):=HS3.out.cell 10
  have c11:w3.cell? ⟨bs,11,none⟩=some (.int .i64 0):=HS3.out.cell 11
  have cf:=HS3.out.fz
  unfold eW
  go_wp2_with fail
  first|go_end0|refine bodyPost_ret (results_none rfl _ _ _) rfl ?_
  rw[HFIN.out]
  refine⟨((HK3.out.thrS 9 _).thrS 10 _).thrS 11 _,Or.inl ⟨HB3.out,((HV3.out.setO bs 9 _ h1 h2).setO bs 10 _ h1 h2).setO bs 11 _ h1 h2,rfl,aN,?_,?_⟩⟩
  ·have e:em {d with op:=9,y:=v1.here ts}={eT d with kind:=9,nt:=(v1.here ts).text,na:=(v1.here ts).at_,nn:=0}:=by simp[em,eT,oW,eC,HD.out.bin,HD.out.field]
   rw[e];exact HS3.out.pnamed _ _ 0 0 rfl
  ·have e:bD {d with op:=9,y:=v1.here ts}=[]:=by simp[bD]
   rw[e];exact World.ownsRow_nil _ _ _ _
 case neg=>
 have NElock:=aa elock
 have hat:v.at ts [108,111,99,107]=false:=by rw[HTA.out _ (by decide)];exact decide_eq_false elock
 have NAlock:=aa hat
 clear elock hat
 refine(bU HV0.out ⟨#[108,111,99,107]⟩ NAlock.out).mono ?_
 rintro e wq ⟨rfl,hq⟩
 subst wq
 go_wp2_with fail
 by_cases eun:(v.here ts).text=[117,110,108,111,99,107]
 case pos=>
  have HE:=aa eun
  have hat:v.at ts [117,110,108,111,99,107]=true:=by rw[HTA.out _ (by decide)];exact decide_eq_true eun
  have HAT:=aa hat
  have HOP:=aa (V.at_open hat)
  clear eun hat
  have HFIN:Hid (cH ts d v=({d with op:=10,y:=(v.go1 ts).here ts},(v.go1 ts).named ts false)):=by show _=_;unfold cH;rw[HE.out];rfl
  refine(aZ HV0.out ⟨#[117,110,108,111,99,107]⟩ HAT.out).mono ?_
  rintro e w1 ⟨hk,hx⟩
  have HK1:=aa (HK0.out.trans hk.thr2)
  have HS1:=aa (HS0.out.kept hk HNT.out)
  clear hk
  rcases hx with⟨h3,h4,rfl⟩|⟨h3,b,rfl,h4⟩
  case inr=>
   have HO:Hid ((v.go1 ts).ok=false∧an w1 b #[.int .i64 (v.go1 ts).e,.int .i64 (v.go1 ts).a]):=⟨h3,h4⟩
   clear h3 h4
   go_wp2_with fail
   rw[HFIN.out]
   simp only[V.named_no HO.out.1]
   exact⟨rfl,HK1.out,Or.inr ⟨HO.out.1,b,rfl,HO.out.2⟩⟩
  case inl=>
  have HV1:=aa h4
  have HB1:=aa h3
  clear h3 h4
  clear c2 cf
  have c2:w1.cell? ⟨bs,2,none⟩=some (.int .i64 0):=HS1.out.cell 2
  have cf:=HS1.out.fz
  generalize hv1:v.go1 ts=v1 at *
  clear hv1
  obtain⟨w2,hw⟩:∃x,x=w1.setCell ⟨bs,2,none⟩ (.int .i64 10):=⟨_,rfl⟩
  have HV2:Hid (RV w2 br bw s ts v1 dep):=by show RV _ _ _ _ _ _ _;rw[hw];exact HV1.out.setO bs 2 _ h1 h2
  have HS2:Hid (an w2 bs (aK {eT d with kind:=10} aN sb)):=by show an _ _ _;rw[hw];exact HS1.out.pkind 10 10 rfl
  have HK2:Hid (ae (eP br bw bs) w w2):=by show ae _ _ _;rw[hw];exact HK1.out.thrS 2 _
  replace hw:=aa hw
  go_wp2_with fail
  rw[←hw.out]
  clear hw c2 cf
  refine(gU HV2.out).mono ?_
  rintro e w3 ⟨hk,hx⟩
  have HK3:=aa (HK2.out.trans hk.thr2)
  have HS3:=aa (HS2.out.kept hk HNT.out)
  clear hk
  rcases hx with⟨h3,h4,rfl⟩|⟨h3,b,rfl,h4⟩
  case inr=>
   have HO:Hid ((v1.named ts false).ok=false∧an w3 b #[.int .i64 (v1.named ts false).e,.int .i64 (v1.named ts false).a]):=⟨h3,h4⟩
   clear h3 h4
   go_wp2_with fail
   rw[HFIN.out]
   exact⟨rfl,HK3.out,Or.inr ⟨HO.out.1,b,rfl,HO.out.2⟩⟩
  case inl=>
  have HV3:=aa h4
  have HB3:=aa h3
  clear h3 h4
  have c9:w3.cell? ⟨bs,9,none⟩=some (.string ⟨#[]⟩):=HS3.out.cell 9
  have c10:w3.cell? ⟨bs,10,none⟩=some (.int .i64 0):=HS3.out.cell 10
  have c11:w3.cell? ⟨bs,11,none⟩=some (.int .i64 0):=HS3.out.cell 11
  have cf:=HS3.out.fz
  unfold eW
  go_wp2_with fail
  first|go_end0|refine bodyPost_ret (results_none rfl _ _ _) rfl ?_
  rw[HFIN.out]
  refine⟨((HK3.out.thrS 9 _).thrS 10 _).thrS 11 _,Or.inl ⟨HB3.out,((HV3.out.setO bs 9 _ h1 h2).setO bs 10 _ h1 h2).setO bs 11 _ h1 h2,rfl,aN,?_,?_⟩⟩
  ·have e:em {d with op:=10,y:=v1.here ts}={eT d with kind:=10,nt:=(v1.here ts).text,na:=(v1.here ts).at_,nn:=0}:=by simp[em,eT,oW,eC,HD.out.bin,HD.out.field]
   rw[e];exact HS3.out.pnamed _ _ 0 0 rfl
  ·have e:bD {d with op:=10,y:=v1.here ts}=[]:=by simp[bD]
   rw[e];exact World.ownsRow_nil _ _ _ _
 case neg=>
 have NEun:=aa eun
 have hat:v.at ts [117,110,108,111,99,107]=false:=by rw[HTA.out _ (by decide)];exact decide_eq_false eun
 have NAun:=aa hat
 clear eun hat
 refine(bU HV0.out ⟨#[117,110,108,111,99,107]⟩ NAun.out).mono ?_
 rintro e wq ⟨rfl,hq⟩
 subst wq
 go_wp2_with fail
 by_cases eret:(v.here ts).text=[114,101,116,117,114,110]
 case pos=>
  have HE:=aa eret
  have hat:v.at ts [114,101,116,117,114,110]=true:=by rw[HTA.out _ (by decide)];exact decide_eq_true eret
  have HAT:=aa hat
  have HOP:=aa (V.at_open hat)
  clear eret hat
  have HFIN:Hid (cH ts d v=(if(v.go1 ts).at ts [59]then({d with op:=12},v.go1 ts)else({d with op:=12,has:=true,y:=(v.go1 ts).here ts},(v.go1 ts).named ts true))):=by show _=_;unfold cH;rw[HE.out];rfl
  refine(aZ HV0.out ⟨#[114,101,116,117,114,110]⟩ HAT.out).mono ?_
  rintro e w1 ⟨hk,hx⟩
  have HK1:=aa (HK0.out.trans hk.thr2)
  have HS1:=aa (HS0.out.kept hk HNT.out)
  clear hk
  rcases hx with⟨h3,h4,rfl⟩|⟨h3,b,rfl,h4⟩
  case inr=>
   have HO:Hid ((v.go1 ts).ok=false∧an w1 b #[.int .i64 (v.go1 ts).e,.int .i64 (v.go1 ts).a]):=⟨h3,h4⟩
   clear h3 h4
   go_wp2_with fail
   have e:(cH ts d v).2=v.go1 ts:=by rw[HFIN.out];split<;>simp[V.named_no HO.out.1]
   rw[e]
   exact⟨rfl,HK1.out,Or.inr ⟨HO.out.1,b,rfl,HO.out.2⟩⟩
  case inl=>
  have HV1:=aa h4
  have HB1:=aa h3
  clear h3 h4
  clear c2 cf
  have c2:w1.cell? ⟨bs,2,none⟩=some (.int .i64 0):=HS1.out.cell 2
  have cf:=HS1.out.fz
  generalize hv1:v.go1 ts=v1 at *
  clear hv1
  obtain⟨w2,hw⟩:∃x,x=w1.setCell ⟨bs,2,none⟩ (.int .i64 12):=⟨_,rfl⟩
  have HV2:Hid (RV w2 br bw s ts v1 dep):=by show RV _ _ _ _ _ _ _;rw[hw];exact HV1.out.setO bs 2 _ h1 h2
  have HS2:Hid (an w2 bs (aK {eT d with kind:=12} aN sb)):=by show an _ _ _;rw[hw];exact HS1.out.pkind 12 12 rfl
  have HK2:Hid (ae (eP br bw bs) w w2):=by show ae _ _ _;rw[hw];exact HK1.out.thrS 2 _
  replace hw:=aa hw
  go_wp2_with fail
  rw[←hw.out]
  clear hw c2 cf
  cases hsc:v1.at ts [59]
  case true=>
   have HSC:=aa hsc
   clear hsc
   refine(pE HV2.out ⟨#[59]⟩).mono ?_
   rintro e wq ⟨rfl,hq⟩
   subst wq
   rw[show V.at ts v1 (ByteArray.mk #[59]).data.toList=true from HSC.out]
   go_wp2_with fail
   first|go_end0|refine bodyPost_ret (results_none rfl _ _ _) rfl ?_
   have e:cH ts d v=({d with op:=12},v1):=by rw[HFIN.out,if_pos HSC.out]
   rw[e]
   refine⟨HK2.out,Or.inl ⟨HV2.out.ok,HV2.out,rfl,aN,?_,?_⟩⟩
   ·have e:em {d with op:=12}={eT d with kind:=12}:=by simp[em,eT,oW,eC,HD.out.bin,HD.out.field,HD.out.f]
    rw[e];exact HS2.out
   ·have e:bD {d with op:=12}=[]:=by simp[bD,HH.out]
    rw[e];exact World.ownsRow_nil _ _ _ _
  case false=>
   have HSC:=aa hsc
   clear hsc
   have HF2:Hid (cH ts d v=({d with op:=12,has:=true,y:=v1.here ts},v1.named ts true)):=by show _=_;rw[HFIN.out,if_neg (by simp[HSC.out])]
   refine(pE HV2.out ⟨#[59]⟩).mono ?_
   rintro e wq ⟨rfl,hq⟩
   subst wq
   rw[show V.at ts v1 (ByteArray.mk #[59]).data.toList=false from HSC.out]
   go_wp2_with fail
   refine(iO HV2.out).mono ?_
   rintro e w3 ⟨hk,hx⟩
   have HK3:=aa (HK2.out.trans hk.thr2)
   have HS3:=aa (HS2.out.kept hk HNT.out)
   clear hk
   rcases hx with⟨h3,h4,rfl⟩|⟨h3,b,rfl,h4⟩
   case inr=>
    have HO:Hid ((v1.named ts true).ok=false∧an w3 b #[.int .i64 (v1.named ts true).e,.int .i64 (v1.named ts true).a]):=⟨h3,h4⟩
    clear h3 h4
    go_wp2_with fail
    rw[HF2.out]
    exact⟨rfl,HK3.out,Or.inr ⟨HO.out.1,b,rfl,HO.out.2⟩⟩
   case inl=>
   have HV3:=aa h4
   have HB3:=aa h3
   clear h3 h4
   have c12:w3.cell? ⟨bs,12,none⟩=some aN:=HS3.out.cell 12
   have cf:=HS3.out.fz
   have hz3:=HK3.out.size
   have hl3:=HS3.out.lt
   unfold ef
   go_wp2_with fail
   first|go_end0|refine bodyPost_ret (results_none rfl _ _ _) rfl ?_
   rw[HF2.out]
   refine⟨(HK3.out.thrS 12 _).alloc _,Or.inl ⟨HB3.out,(HV3.out.setO bs 12 _ h1 h2).below ((Below.refl _ _).alloc (Nat.le_refl _) _),rfl,.slice (some ⟨w3.heap.size,0,none⟩) 1 1,?_,?_⟩⟩
   ·have e:em {d with op:=12,has:=true,y:=v1.here ts}={eT d with kind:=12}:=by simp[em,eT,oW,eC,HD.out.bin,HD.out.field,HD.out.f]
    rw[e];exact(HS3.out.pright _).alloc _
   ·have e:bD {d with op:=12,has:=true,y:=v1.here ts}=[v1.here ts]:=by simp[bD]
    rw[e];exact gV w3.heap.size (by simp[World.setCell]) _ _ rfl rfl hz3
 case neg=>
 have NEret:=aa eret
 have hat:v.at ts [114,101,116,117,114,110]=false:=by rw[HTA.out _ (by decide)];exact decide_eq_false eret
 have NAret:=aa hat
 clear eret hat
 refine(bU HV0.out ⟨#[114,101,116,117,114,110]⟩ NAret.out).mono ?_
 rintro e wq ⟨rfl,hq⟩
 subst wq
 go_wp2_with fail
 have hbad:v.bad ts false=true:=by unfold V.bad;simp[HNK.out]
 have HNM:=aa (V.named_not HV0.out.ok hbad)
 have HFL:=aa (V.flt_yes HV0.out.ok 5 (v.here ts).at_ (by decide))
 have HFIN:Hid ((cH ts d v).2=v.flt 5 (v.here ts).at_):=by
  show _=_
  have hb:(v.named ts false).ok=false:=by rw[HNM.out];exact HFL.out.1
  unfold cH
  rw[if_neg NElock.out,if_neg NEun.out,if_neg NEjoin.out,if_neg NEret.out,if_neg NEgo.out,Hd.simple_bad d hb,HNM.out]
 clear hbad
 refine(lH HV0.out).mono ?_
 rintro e w1 ⟨⟨b,rfl,h3⟩,h4⟩
 replace h3:=aa h3
 replace h4:=aa h4
 go_wp2_with fail
 rw[HFIN.out]
 exact⟨rfl,ae.of_below h4.out,Or.inr ⟨HFL.out.1,b,rfl,by rw[HFL.out.2.1,HFL.out.2.2];exact h3.out⟩⟩
end
end
end Go.Proofs.YtmdaflepdaiabaaGreatDoor
