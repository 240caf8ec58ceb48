import Derived.Test.YtajfbbldaiaolaaGreatDoorQ01
set_option linter.unusedSimpArgs false
set_option linter.unusedVariables false
set_option maxRecDepth 100000
set_option maxHeartbeats 4000000
namespace Go.Proofs.YtajfbbldaiaolaaGreatDoor
open Go.RowKit
variable {b d e g n:Nat}{w:World}
section
def ta(b:aJ):Nat:=if b=[43]then 1 else if b=[45]then 2 else if b=[60]then 3 else if b=[61,61]then 4 else 0
theorem gS{B size:Nat}{v:Value}{A:List Value}(h:w.ownsRow B e size v n A):w.drew.ownsRow B e size v n A:=h
theorem mz{c k:Nat}(e:Value.ownBlock (.slice (some (Ad g 0)) n c)=some k):g=k:=by simpa[Value.ownBlock]using e
theorem iB{P:Program}{A:Array Oper}{o:Oper}{a:Act}{K:Act->World->Prop}{Q:Exit->Act->World->Prop}{E:Prop}(hg:o.guard=none)(h:Oper.wp P o a w K Q):if Region.wanted o (yielded A a.tmps)=true then Oper.wp P o a w K Q else E:=by
 have B:Region.wanted o (yielded A a.tmps)=true:=by simp[Region.wanted,hg]
 rw[if_pos B]
 exact h
def po(h:Hd):List bB:=if h.bin=[]then[]else[h.z]
abbrev fF(t:bB):Obj:=.cells #[.string ⟨(nv t).toArray⟩,.int .i64 (FG t),.int .i64 0,.int .i64 (tQ t)] 258
section
variable {w:World} {br bw bs:Nat} {s:ByteArray} {ts:List bB} {v:V} {dep:Nat} {p:Ph} {sr sb:Value}
theorem kq.good{w':World}{r:Ending}{R:Ending->World->Prop}(h:kq w w' br bw s ts v dep r R)(B:v.ok=true):aC (gO br bw) w w'/\RV w' br bw s ts v dep/\R r w':=by
 rcases h.2 with A|A
 ·exact⟨h.1,A.2⟩
 ·rw[B]at A;exact absurd A.1 (by decide)
theorem kq.bad{w':World}{r:Ending}{R:Ending->World->Prop}(h:kq w w' br bw s ts v dep r R)(B:v.ok=false):aC (gO br bw) w w'/\dA w' r v.e v.a:=by
 rcases h.2 with A|A
 ·rw[B]at A;exact absurd A.1 (by decide)
 ·exact⟨h.1,A.2⟩
def iI:List aJ:=fB++[[43],[45],[60],[61,61]]
theorem lL:([]:aJ)∉iI:=by decide
def oW(p:UInt8->Bool):aJ->Bool
 |[]=>false
 |d::_=>!p d
theorem ov{p:UInt8->Bool}(l:aJ)(i:Nat)(h:oW p (sub l i (cQ p l i))=true):False:=by
 cases e:sub l i (cQ p l i)with
 |nil=>rw[e]at h;cases h
 |cons d r=>
  rw[e]at h
  have:=sB (p:=p) l i d (by rw[e];simp)
  simp[oW,this]at h
theorem zY:∀t,t∈iI->oW dR t=true:=by decide
theorem CF:∀t,t∈([[43],[45],[60],[61,61]]:List aJ)->oW eQ t=true:=by decide
theorem rP(l:aJ)(i:Nat)(h:(fG l i).text∈iI):(fG l i).k=107\/(fG l i).k=115:=by
 unfold fG at h⊢
 cases hg:l[i]? with
 |none=>rw[hg]at h;exact absurd h lL
 |some c=>
  rw[hg]at h
  simp only at h⊢
  by_cases C:dR c=true
  ·exfalso
   by_cases A:6< cQ dR l i
   ·simp only[C,A,if_true]at h;exact lL h
   ·simp only[C,A,if_true,if_false]at h
    exact ov l i (zY _ h)
  ·simp only[C,Bool.false_eq_true,if_false]at h⊢
   by_cases E:eQ c=true
   ·simp only[E,if_true]at h⊢
    by_cases A:6< cQ eQ l i
    ·simp only[A,if_true]at h;exact absurd h lL
    ·simp only[A,if_false]at h⊢
     by_cases B:jO (sub l i (cQ eQ l i))=true
     ·simp[B]
     ·exfalso
      simp only[B,Bool.false_eq_true,if_false]at h
      unfold iI at h
      rcases List.mem_append.1 h with h|h
      ·exact B (sd _ h)
      ·exact ov l i (CF _ h)
   ·simp only[E,Bool.false_eq_true,if_false]at h⊢
    by_cases D:ik c=true
    ·simp only[D,if_true]at h⊢
     split<;>simp
    ·simp only[D,Bool.false_eq_true,if_false]at h;exact absurd h lL
theorem RV.text_at(h:RV w br bw s ts v dep)(t:aJ)(C:t∈iI):v.at ts t=decide ((v.here ts).text=t):=by
 obtain⟨i,_,e⟩:=V.here_lex h.tk h.lt
 unfold V.at
 by_cases B:(v.here ts).text=t
 ·have A:=rP s.data.toList i (by rw[<-e,B];exact C)
  rw[<-e]at A
  rcases A with A|A<;>simp[A,B]
 ·simp[B]
theorem JU(h:RV w br bw s ts v dep)(t:bB)(d:Hd)(hd:d.bin=[])(x:aM w bs (bK p sr sb))(h1:bs≠br)(h2:bs≠bw)(ag:∃p1 n1 c1,sr=.slice p1 n1 c1)(hp:p.op=0):
  Calls Tryz.prog 298 #[Pt br 0,Pt bs 0,gA t] w fun r w'=>tY (gK br bw bs) w w' br bw s ts (Hd.sum ts d v).2 dep r (fun r w'=>r=.returned (.tuple #[])/\Jc w' w.heap.size bs {p with kind:=1,op:=ta (Hd.sum ts d v).1.bin} (t::po (Hd.sum ts d v).1) sb):=by
 obtain⟨i0,hi,af,ae,ad⟩:=info_parts mj
 obtain⟨p1,n1,c1,rfl⟩:=ag
 have a1:=x.lt
 have c2:Ce w bs 2 (aB p.kind):=x.cell 2
 have a4:Ce w bs 12 (.slice p1 n1 c1):=x.cell 12
 have cf:=x.fz
 obtain⟨wA,H⟩:=bM ((((w.setCell (Ad bs 2) (aB 1)).setCell (Ad bs 12) (.slice (some (Ad (w.heap.size+1) 0)) 1 1)).alloc (fF t)).alloc (fF t))
 have E:Hid (RV wA br bw s ts v dep):=by
  show RV _ _ _ _ _ _ _
  rw[H]
  exact(((h.setO bs 2 _ h1 h2).setO bs 12 _ h1 h2).below (ba _ _)).below (ba _ _)
 have a8:Hid (aM wA bs (bK {p with kind:=1} (.slice (some (Ad (w.heap.size+1) 0)) 1 1) sb)):=by
  show aM _ _ _
  rw[H]
  exact(((x.pkind 1 1 rfl).pright _).alloc _).alloc _
 have Z:Hid (aC (gK br bw bs) w wA):=by
  show aC _ _ _
  rw[H]
  exact((((aC.refl (gK br bw bs) w).thrS 2 _).thrS 12 _).alloc _).alloc _
 have aa:Hid (wA.ownsRow w.heap.size 258 4 (.slice (some (Ad (w.heap.size+1) 0)) 1 1) 1 (eh [t])):=by
  show World.ownsRow _ _ _ _ _ _ _
  rw[H]
  have:=jJ (w:=(((w.setCell (Ad bs 2) (aB 1)).setCell (Ad bs 12) (.slice (some (Ad (w.heap.size+1) 0)) 1 1)).alloc (fF t))) (B:=w.heap.size) (e:=258) (size:=4) #[.string ⟨(nv t).toArray⟩,aB (FG t),aB 0,aB (tQ t)] (eh [t]) rfl rfl (by simp[World.setCell])
  simpa[World.setCell]using this
 have K:Hid (∀u,u∈iI->v.at ts u=decide ((v.here ts).text=u)):=fun u hu=>h.text_at u hu
 have HZ:=aG Z.size
 have ay:=h.rb.lt
 have ax:=h.wb.lt
 have a7:Hid (∀i,gO br bw i->i< w.heap.size):=fun i e=>by rcases e with e|e<;>omega
 have aw:Hid (ej (v.here ts)=true->(v.here ts).text=[]):=fun hf=>by
  obtain⟨i,_,e⟩:=V.here_lex h.tk h.lt
  rw[e]at hf⊢
  exact nT _ _ hf
 obtain⟨HD,ak⟩:=aN hd hp
 replace H:=aG H
 clear h x hd hp
 unfold gA
 go_in
 go_wp2_with fail
 rw[<-H.out]
 clear H c2 a4 cf
 by_cases W:(v.here ts).text=[43]
 focus
  have L:=aG W
  clear W
  have D:Hid (Hd.sum ts d v=({d with bin:=[43],z:=(v.go1 ts).here ts},(v.go1 ts).named ts true)):=by show _=_;unfold Hd.sum;rw[if_pos (by rw[L.out];decide),L.out]
  have A:v.at ts [43]=true:=by rw[K.out _ (by decide)];exact decide_eq_true L
  replace A:=aG A
  have Y:Hid (∃(k:Nat) (z:Int),z=k/\z=1/\k=1):=⟨1,1,rfl,rfl,rfl⟩
  refine(cK E ⟨#[43]⟩ A).mono ?_
 rotate_left
 focus
  have j:=aG W
  clear W
  refine(dx E ⟨#[43]⟩ (by show v.at ts [43]=false;rw[K.out _ (by decide)];exact decide_eq_false j)).mono ?_
  rintro e m ⟨rfl,hq⟩
  subst m
  go_wp2_with fail
  by_cases T:(v.here ts).text=[45]
  focus
   have L:=aG T
   clear T
   have D:Hid (Hd.sum ts d v=({d with bin:=[45],z:=(v.go1 ts).here ts},(v.go1 ts).named ts true)):=by show _=_;unfold Hd.sum;rw[if_pos (by rw[L.out];decide),L.out]
   have A:v.at ts [45]=true:=by rw[K.out _ (by decide)];exact decide_eq_true L
   replace A:=aG A
   have Y:Hid (∃(k:Nat) (z:Int),z=k/\z=2/\k=2):=⟨2,2,rfl,rfl,rfl⟩
   refine(cK E ⟨#[45]⟩ A).mono ?_
  rotate_left
  focus
   have g:=aG T
   clear T
   refine(dx E ⟨#[45]⟩ (by show v.at ts [45]=false;rw[K.out _ (by decide)];exact decide_eq_false g)).mono ?_
   rintro e m ⟨rfl,hq⟩
   subst m
   go_wp2_with fail
   by_cases S:(v.here ts).text=[60]
   focus
    have L:=aG S
    clear S
    have D:Hid (Hd.sum ts d v=({d with bin:=[60],z:=(v.go1 ts).here ts},(v.go1 ts).named ts true)):=by show _=_;unfold Hd.sum;rw[if_pos (by rw[L.out];decide),L.out]
    have A:v.at ts [60]=true:=by rw[K.out _ (by decide)];exact decide_eq_true L
    replace A:=aG A
    have Y:Hid (∃(k:Nat) (z:Int),z=k/\z=3/\k=3):=⟨3,3,rfl,rfl,rfl⟩
    refine(cK E ⟨#[60]⟩ A).mono ?_
   rotate_left
   focus
    have f:=aG S
    clear S
    refine(dx E ⟨#[60]⟩ (by show v.at ts [60]=false;rw[K.out _ (by decide)];exact decide_eq_false f)).mono ?_
    rintro e m ⟨rfl,hq⟩
    subst m
    go_wp2_with fail
    by_cases R:(v.here ts).text=[61,61]
    focus
     have L:=aG R
     clear R
     have D:Hid (Hd.sum ts d v=({d with bin:=[61,61],z:=(v.go1 ts).here ts},(v.go1 ts).named ts true)):=by show _=_;unfold Hd.sum;rw[if_pos (by rw[L.out];decide),L.out]
     have A:v.at ts [61,61]=true:=by rw[K.out _ (by decide)];exact decide_eq_true L
     replace A:=aG A
     have Y:Hid (∃(k:Nat) (z:Int),z=k/\z=4/\k=4):=⟨4,4,rfl,rfl,rfl⟩
     refine(cK E ⟨#[61,61]⟩ A).mono ?_
    rotate_left
    focus
     have c:=aG R
     clear R
     refine(dx E ⟨#[61,61]⟩ (by show v.at ts [61,61]=false;rw[K.out _ (by decide)];exact decide_eq_false c)).mono ?_
     rintro e m ⟨rfl,hq⟩
     subst m
     go_wp2_with fail
     have D:Hid (Hd.sum ts d v=(d,v)):=by show _=_;unfold Hd.sum;rw[if_neg (fun e=>by rcases e with e|e|e|e;exact j.out e;exact g.out e;exact f.out e;exact c.out e)]
     first|go_end0|refine bodyPost_ret (results_none rfl _ _ _) rfl ?_
     rw[D.out]
     refine⟨Z,.inl ⟨E.ok,E,rfl,.slice (some (Ad (w.heap.size+1) 0)) 1 1,?_,?_⟩⟩
     ·have e:ta d.bin=p.op:=by rw[HD.out,ak.out];rfl
      rw[e];exact a8
     ·have e:po d=[]:=by unfold po;rw[HD.out];rfl
      rw[e];exact aa
 all_goals
  rintro e w1 Q
  cases J:(v.go1 ts).ok
  ·obtain⟨G,b,rfl,q⟩:=Q.bad J
   have HO:Hid (aC (gK br bw bs) w w1/\(v.go1 ts).ok=false/\aM w1 b #[aB (v.go1 ts).e,aB (v.go1 ts).a]):=⟨Z.trans G.thr2,J,q⟩
   clear G q Q J
   go_wp2_with fail
   rw[D.out]
   simp only[V.named_no HO.out.2.1]
   exact⟨rfl,HO.1,.inr ⟨HO.2.1,b,rfl,HO.2.2⟩⟩
  ·obtain⟨G,N,rfl⟩:=Q.good J
   obtain⟨o,a6⟩:=aN (Z.trans G.thr2) N
   have O:=a8.kept G (fun e=>by rcases e with e|e<;>contradiction)
   have aj:=aG O
   have a3:=dw aa G a7
   have ac:=aG a3
   have c6:Ce w1 bs 6 (aB p.op):=O.cell 6
   have a4:Ce w1 bs 12 (.slice (some (Ad (w.heap.size+1) 0)) 1 1):=O.cell 12
   have cf:=O.fz
   have ao:=o.size
   clear G N Q J O a3
   generalize a0:v.go1 ts=v1 at *
   replace a0:=aG a0
   obtain⟨k,z,a2,hz,ah⟩:=Y
   obtain⟨a5,a9,ab,l⟩:=fK ((a6.setO bs 6 (aB z) h1 h2).below ((Below.refl _ _).drew)) ((aj.pop k z a2).below ((Below.refl _ _).drew)) (gS (bZ ac 6 (aB z) a1)) ((o.thrS 6 (aB z)).drew)
   subst hz ah
   clear a2
   clear a6 ac o
   go_wp2_with fail
   go_region_law (first|(refine iB rfl ?_;go_wp2_with fail;refine(om a5).mono ?_;rintro e w2 Q;cases C:(v1.named ts true).ok;(focus(obtain⟨G,b,rfl,q⟩:=Q.bad C;replace G:=aG G;replace q:=aG q;replace C:=aG C;clear Q;go_wp2_with fail;rw[D.out];exact⟨rfl,l.trans G.thr2,.inr ⟨C,b,rfl,q⟩⟩));(obtain⟨G,N,rfl⟩:=Q.good C;have al:=aG (dw ab G a7);have X:=aG (a9.kept G (fun e=>by rcases e with e|e<;>contradiction));have ar:Ce w2 bs 12 (.slice (some (Ad (w.heap.size+1) 0)) 1 1):=X.cell 12;have av:=X.fz;have ap:=X.lt;have y:=G.size;have an:=aG (l.trans G.thr2);replace N:=aG N;replace C:=aG C;clear Q G;unfold gA))|(refine bD rfl (.tmp 42) (.tmp 45) 216 rfl w.heap.size 258 i0 (.agg #[.string ⟨#[]⟩,aB 0,aB 0,aB 0]) 4 40 Tryz.underlying216 hi af ae ad rfl (by decide) _ _ _ (by simp[Act.eval,Act.put]) (al.alloc _) (Ad w2.heap.size 0) 1 1 (lk (v1.here ts)) (by simp[Act.eval,Act.put]) rfl (cF _ _ _ _ (by simp)) (sc _) (by decide) (by unfold maxLen;omega) (by omega) (by simp;simp[World.setCell]at y;omega) ?_;intro l3 w3 F M _;obtain⟨p3,c3,rfl⟩:=aI F;have P:=aC.grown ((aC.refl (fun k=>Value.ownBlock (.slice (some (Ad (w.heap.size+1) 0)) 1 1)=some k) w2).alloc _) M (fun k G=>.inl G);have n:=aG (X.kept P (fun e=>by have:=mz e;omega));have ai:=aG (N.kept P (fun e=>by have:=mz e;omega) (fun e=>by have:=mz e;omega));have am:=aG (an.trans' P (fun i e=>.inr (by have:=mz e;omega)));have aq:Ce w3 bs 12 (.slice (some (Ad (w.heap.size+1) 0)) 1 1):=n.cell 12;have au:=n.fz;replace F:=aG F;clear P M))
   all_goals
    go_wp2_with fail
    first|go_end0|refine bodyPost_ret (results_none rfl _ _ _) rfl ?_
    rw[D.out]
    refine⟨am.thrS 12 _,.inl ⟨C,ai.setO bs 12 _ h1 h2,rfl,_,n.pright _,?_⟩⟩
    exact bZ F _ _ a1
end
end
section
def fH(h:Hd):Ph:={at_:=h.at_,kind:=h.op,lt:=h.x.text,la:=h.x.at_,op:=ta h.bin,side:=fX h.field,wa:=if h.op=6\/h.op=7 then h.mark else 0,nt:=if h.op=9\/h.op=10 then h.y.text else h.f.text,na:=if h.op=9\/h.op=10 then h.y.at_ else h.f.at_}
def cY(h:Hd):List bB:=if h.op=9\/h.op=10\/h.op=6 then[]else if h.op=7\/h.op=11 then h.args else if h.op=12 then(if h.has then[h.y]else[])else h.y::po h
structure yq(d:Hd):Prop where
 bin:d.bin=[]
 field:d.field=[]
 f:d.f=⟨0,[],0,0⟩
def gF(d:Hd):Ph:={at_:=d.at_,lt:=d.x.text,la:=d.x.at_}
abbrev bV:Value:=.slice none 0 0
abbrev yP(t:bB):Array Value:=#[.string ⟨t.text.toArray⟩,.int .i64 t.at_,.int .i64 0]
theorem V.named_num{ts:List bB}{v:V}(h:(v.here ts).k=97):v.named ts false=v.named ts true:=by
 unfold V.named V.bad
 simp[h]
theorem qt{t:bB}(h:t.k=97):lk t=[.string ⟨t.text.toArray⟩,aB t.at_,aB 0,aB 0]:=by
 unfold lk nv FG tQ
 simp[h]
theorem xQ{t:bB}(h:t.k=97):gA t=.agg #[.string ⟨t.text.toArray⟩,aB t.at_,aB 0,aB 0]:=by
 unfold gA nv FG tQ
 simp[h]
theorem Hd.right_name{ts:List bB}{v:V}(d:Hd)(h:(v.here ts).k=97):Hd.right ts d v=
  if(v.named ts true).at ts [40]=true then({d with mark:=(v.here ts).at_,op:=11,f:=v.here ts,y:=⟨0,[],0,0⟩,args:=(V.list ts true (v.named ts true)).1},(V.list ts true (v.named ts true)).2)
  else if(v.named ts true).at ts [46]=true then({d with mark:=(v.here ts).at_,op:=4,y:=v.here ts,field:=(V.side ts (v.named ts true)).1},(V.side ts (v.named ts true)).2)
  else Hd.sum ts {d with mark:=(v.here ts).at_,op:=1,y:=v.here ts} (v.named ts true):=by
 have A:∀t,v.at ts t=false:=fun t=>by unfold V.at;simp[h]
 unfold Hd.right
 simp[A,h]
theorem Hd.right_bad{ts:List bB}{v:V}(d:Hd)(h:(v.here ts).k=97)(A:(v.named ts true).ok=false):(Hd.right ts d v).2=v.named ts true:=by
 rw[Hd.right_name d h]
 repeat' split
 all_goals simp[V.list_no A,V.side_no A,Hd.sum_no A]
theorem wN(ts:List bB)(d:Hd)(v:V):(Hd.sum ts d v).1.op=d.op/\(Hd.sum ts d v).1.x=d.x/\(Hd.sum ts d v).1.y=d.y/\(Hd.sum ts d v).1.at_=d.at_/\(Hd.sum ts d v).1.field=d.field/\(Hd.sum ts d v).1.f=d.f:=by
 unfold Hd.sum
 split<;>simp
theorem ur{ts:List bB}{d:Hd}{u:V}{t:bB}(m:Nat)(A:yq d):fH (Hd.sum ts {d with mark:=m,op:=1,y:=t} u).1={gF d with kind:=1,op:=ta (Hd.sum ts {d with mark:=m,op:=1,y:=t} u).1.bin}/\cY (Hd.sum ts {d with mark:=m,op:=1,y:=t} u).1=t::po (Hd.sum ts {d with mark:=m,op:=1,y:=t} u).1:=by
 obtain⟨C,G,B,F,E,D⟩:=wN ts {d with mark:=m,op:=1,y:=t} u
 constructor
 ·unfold fH
  rw[C,G,B,F,E,D,A.field,A.f]
  simp[gF,fX]
 ·unfold cY
  rw[C,B]
  simp
theorem jm{B size:Nat}(g:Nat)(hg:w.heap.size=g)(A:Array Value)(C:List Value)(E:C.length=1*size)(D:A.toList=C)(F:B<=g):(w.alloc (.cells A e)).ownsRow B e size (.slice (some (Ad g 0)) 1 1) 1 C:=by
 subst hg;exact jJ A C E D F
theorem V.side_eq(ts:List bB)(v:V):V.side ts v=(((v.go1 ts).here ts).text,V.sideV ts (v.go1 ts)):=rfl
theorem V.sideV_no{ts:List bB}{v:V}(h:v.ok=false):V.sideV ts v=v:=by unfold V.sideV;rw[V.named_no h,V.flt_no h,ite_self]
section
variable {w:World} {br bw bs:Nat} {s:ByteArray} {ts:List bB} {v:V} {dep:Nat} {sb:Value}
theorem qJ(h:RV w br bw s ts v dep)(E:(v.here ts).k=97)(d:Hd)(hd:yq d)(hS:aM w bs (bK (gF d) bV sb))(h1:bs≠br)(h2:bs≠bw):
  Calls Tryz.prog 297 #[Pt br 0,Pt bs 0] w fun r w'=>tY (gK br bw bs) w w' br bw s ts (Hd.right ts d v).2 dep r (fun r w'=>r=.returned (.tuple #[])/\Jc w' w.heap.size bs (fH (Hd.right ts d v).1) (cY (Hd.right ts d v).1) sb):=by
 have a8:=hS.lt
 have aq:=h.rb.lt
 have ap:=h.wb.lt
 have g:Hid (¬gO br bw bs):=fun e=>by rcases e with e|e<;>contradiction
 have ae:Hid (∀i,gO br bw i->i< w.heap.size):=fun i e=>by rcases e with e|e<;>omega
 obtain⟨ad,ah,ak,l⟩:=fK h hS (aC.refl (gK br bw bs) w) hd
 have ar:Hid True:=trivial
 obtain⟨HR,ai,R⟩:=bY (Hd.right_name d E) (V.named_num E) E
 clear h hS hd E
 go_in
 go_wp2_with fail
 refine(jl ad).mono ?_
 rw[ai.out]
 rintro e w1 ⟨E,T⟩
 obtain⟨j,ag⟩:=aN (ak.trans E.thr2) (ah.kept E g)
 clear E
 rcases T with⟨C,A,rfl⟩|⟨C,b,rfl,A⟩
 case inr=>
  have J:Hid ((v.named ts true).ok=false/\aM w1 b #[aB (v.named ts true).e,aB (v.named ts true).a]):=⟨C,A⟩
  clear C A
  go_wp2_with fail
  have e:(Hd.right ts d v).2=v.named ts true:=Hd.right_bad d R J.1
  rw[e]
  exact⟨rfl,j,.inr ⟨J.1,b,rfl,J.2⟩⟩
 case inl=>
 have ac:=aG A
 clear C A
 generalize hu:v.named ts true=u at *
 clear hu
 generalize a6:v.here ts=t at *
 clear a6
 have al:=j.size
 obtain⟨w2,G⟩:=bM (w1.alloc (.cells (yP t) 119))
 have M:Hid (RV w2 br bw s ts u dep):=by show RV _ _ _ _ _ _ _;rw[G];exact ac.below (ba _ _)
 have c:Hid (aM w2 bs (bK (gF d) bV sb)):=by show aM _ _ _;rw[G];exact ag.alloc _
 have X:Hid (aC (gK br bw bs) w w2):=by show aC _ _ _;rw[G];exact j.alloc _
 have D:Hid (aM w2 w1.heap.size (yP t)):=by show aM _ _ _;rw[G];exact aM.new _ _ _
 replace G:=aG G
 unfold gH
 go_wp2_with fail
 rw[<-G.out]
 clear G
 have q:=X.size
 have ao:=D.lt
 cases W:u.at ts [40]
 ·have N:=aG W
  clear W
  refine(ug M ⟨#[40]⟩).mono ?_
  rintro e m ⟨rfl,hq⟩
  subst m
  rw[show V.at ts u (ByteArray.mk #[40]).data.toList=false from N.out]
  go_wp2_with fail
  cases L:u.at ts [46]
  ·have H:=aG L
   clear L
   have B:Hid (Hd.right ts d v=Hd.sum ts {d with mark:=t.at_,op:=1,y:=t} u):=by show _=_;rw[HR.out,if_neg (by simp[N.out]),if_neg (by simp[H.out])]
   refine(dx M ⟨#[46]⟩ H).mono ?_
   rintro e m ⟨rfl,hq⟩
   subst m
   have p:=D.cell 0
   have o:=D.cell 1
   have n:=D.cell 2
   go_wp2_with fail
   rw[<-xQ R.out]
   refine(JU M t {d with mark:=t.at_,op:=1,y:=t} l.bin c h1 h2 ⟨_,_,_,rfl⟩ rfl).mono ?_
   have a0:=aG (ur (ts:=ts) (u:=u) (t:=t) t.at_ l)
   generalize a7:Hd.sum ts {d with mark:=t.at_,op:=1,y:=t} u=S at *
   clear a7
   rintro e K ⟨E,T⟩
   have F:=aG (X.trans E)
   clear E p o n
   rcases T with⟨C,A,rfl,sE,z,x⟩|⟨C,b,rfl,A⟩
   ·have O:=aG (And.intro C (And.intro A (And.intro z (cU x q))))
    clear C A z x
    go_wp2_with fail
    first|go_end0|refine bodyPost_ret (results_none rfl _ _ _) rfl ?_
    rw[B.out]
    exact⟨F,.inl ⟨O.1,O.2.1,rfl,sE,by rw[a0.out.1];exact O.2.2.1,by rw[a0.out.2];exact O.2.2.2⟩⟩
   ·have J:Hid (S.2.ok=false/\aM K b #[aB S.2.e,aB S.2.a]):=⟨C,A⟩
    clear C A
    go_wp2_with fail
    rw[B.out]
    exact⟨rfl,F,.inr ⟨J.1,b,rfl,J.2⟩⟩
  ·have H:=aG L
   clear L
   have B:Hid (Hd.right ts d v=({d with mark:=t.at_,op:=4,y:=t,field:=((u.go1 ts).here ts).text},V.sideV ts (u.go1 ts))):=by show _=_;rw[HR.out,if_neg (by simp[N.out]),if_pos H.out,V.side_eq]
   refine(cK M ⟨#[46]⟩ H).mono ?_
   rintro e K ⟨E,T⟩
   obtain⟨F,P,Q⟩:=bY (X.trans E.thr2) (c.kept E g) (D.kept E (fun e=>by rcases e with e|e<;>omega))
   clear E
   rcases T with⟨C,A,rfl⟩|⟨C,b,rfl,A⟩
   case inr=>
    have J:Hid ((u.go1 ts).ok=false/\aM K b #[aB (u.go1 ts).e,aB (u.go1 ts).a]):=⟨C,A⟩
    clear C A
    go_wp2_with fail
    rw[B.out]
    simp only[V.sideV_no J.out.1]
    exact⟨rfl,F,.inr ⟨J.1,b,rfl,J.2⟩⟩
   case inl=>
   have ab:=aG A
   clear C A
   generalize a5:u.go1 ts=Y at *
   clear a5
   have a4:=F.size
   have an:=P.lt
   obtain⟨w4,G⟩:=bM (((K.setCell (Ad bs 2) (aB 4)).setCell (Ad bs 12) (.slice (some (Ad K.heap.size 0)) 1 1)).alloc (.cells #[.string ⟨t.text.toArray⟩,aB t.at_,aB 0,aB 0] 258))
   have aa:Hid (RV w4 br bw s ts Y dep):=by show RV _ _ _ _ _ _ _;rw[G];exact((ab.setO bs 2 _ h1 h2).setO bs 12 _ h1 h2).below (ba _ _)
   have af:Hid (aM w4 bs (bK {gF d with kind:=4} (.slice (some (Ad K.heap.size 0)) 1 1) sb)):=by show aM _ _ _;rw[G];exact((P.pkind 4 4 rfl).pright _).alloc _
   have aj:Hid (aC (gK br bw bs) w w4):=by show aC _ _ _;rw[G];exact((F.thrS 2 _).thrS 12 _).alloc _
   have a2:Hid (w4.ownsRow w.heap.size 258 4 (.slice (some (Ad K.heap.size 0)) 1 1) 1 (eh [t])):=by show World.ownsRow _ _ _ _ _ _ _;rw[G];exact jm (w:=(K.setCell (Ad bs 2) (aB 4)).setCell (Ad bs 12) (.slice (some (Ad K.heap.size 0)) 1 1)) K.heap.size (by simp[World.setCell]) _ _ (by simp[eh,lk]) (by simp[eh,qt R.out]) a4
   replace G:=aG G
   have p:=Q.cell 0
   have o:=Q.cell 1
   have n:=Q.cell 2
   have c2:Ce K bs 2 (aB 0):=P.cell 2
   have a9:Ce K bs 12 bV:=P.cell 12
   have cf:=P.fz
   have am:w1.heap.size≠bs:=by omega
   go_wp2_with fail
   rw[<-G.out]
   clear G p o n c2 a9 cf
   refine(Gf aa).mono ?_
   rintro e w5 ⟨E,T⟩
   obtain⟨a3,Z,a1⟩:=bY (aj.trans E.thr2) (af.kept E g) (dw a2 E ae)
   clear E
   rcases T with⟨C,A,rfl⟩|⟨C,b,rfl,A⟩
   ·have O:=aG (And.intro C A)
    have c7:Ce w5 bs 7 (aB 0):=Z.cell 7
    have cf:=Z.fz
    clear C A
    go_wp2_with fail
    first|go_end0|refine bodyPost_ret (results_none rfl _ _ _) rfl ?_
    rw[B.out]
    refine⟨a3.thrS 7 _,.inl ⟨O.1,O.2.setO bs 7 _ h1 h2,rfl,.slice (some (Ad K.heap.size 0)) 1 1,?_,?_⟩⟩
    ·have e:fH {d with mark:=t.at_,op:=4,y:=t,field:=(Y.here ts).text}={gF d with kind:=4,side:=fX (Y.here ts).text}:=by simp[fH,gF,ta,l.out.bin,l.out.f]
     rw[e];exact Z.pside _
    ·have e:cY {d with mark:=t.at_,op:=4,y:=t,field:=(Y.here ts).text}=[t]:=by simp[cY,po,l.out.bin]
     rw[e];exact bZ a1 _ _ a8
   ·have J:Hid ((V.sideV ts Y).ok=false/\aM w5 b #[aB (V.sideV ts Y).e,aB (V.sideV ts Y).a]):=⟨C,A⟩
    clear C A
    go_wp2_with fail
    rw[B.out]
    exact⟨rfl,a3,.inr ⟨J.1,b,rfl,J.2⟩⟩
 ·have N:=aG W
  clear W
  have B:Hid (Hd.right ts d v=({d with mark:=t.at_,op:=11,f:=t,y:=⟨0,[],0,0⟩,args:=(V.list ts true u).1},(V.list ts true u).2)):=by show _=_;rw[HR.out,if_pos N.out]
  refine(ug M ⟨#[40]⟩).mono ?_
  rintro e m ⟨rfl,hq⟩
  subst m
  rw[show V.at ts u (ByteArray.mk #[40]).data.toList=true from N.out]
  have p:=D.cell 0
  have o:=D.cell 1
  have n:=D.cell 2
  go_wp2_with fail
  refine(BP M t c h1 h2).mono ?_
  rintro e K ⟨E,T⟩
  have F:=aG (X.trans E)
  clear E p o n
  rcases T with⟨C,A,rfl,sE,z,x⟩|⟨C,b,rfl,A⟩
  ·have O:=aG (And.intro C (And.intro A (And.intro z (cU x q))))
   clear C A z x
   go_wp2_with fail
   first|go_end0|refine bodyPost_ret (results_none rfl _ _ _) rfl ?_
   rw[B.out]
   refine⟨F,.inl ⟨O.1,O.2.1,rfl,sE,?_,?_⟩⟩
   ·have e:fH {d with mark:=t.at_,op:=11,f:=t,y:=⟨0,[],0,0⟩,args:=(V.list ts true u).1}={gF d with kind:=11,nt:=t.text,na:=t.at_,nn:=0}:=by simp[fH,gF,ta,fX,l.out.bin,l.out.field]
    rw[e];exact O.2.2.1
   ·have e:cY {d with mark:=t.at_,op:=11,f:=t,y:=⟨0,[],0,0⟩,args:=(V.list ts true u).1}=(V.list ts true u).1:=by simp[cY]
    rw[e];exact O.2.2.2
  ·have J:Hid ((V.list ts true u).2.ok=false/\aM K b #[aB (V.list ts true u).2.e,aB (V.list ts true u).2.a]):=⟨C,A⟩
   clear C A
   go_wp2_with fail
   rw[B.out]
   exact⟨rfl,F,.inr ⟨J.1,b,rfl,J.2⟩⟩
end
end
section
theorem Hd.right_go{ts:List bB}{v:V}(d:Hd)(h:v.at ts [103,111]=true):Hd.right ts d v=({d with mark:=(v.here ts).at_,op:=7,f:=(v.go1 ts).here ts,args:=(V.list ts true ((v.go1 ts).named ts false)).1},(V.list ts true ((v.go1 ts).named ts false)).2):=by
 have A:v.at ts [110,101,119]=false:=by
  unfold V.at at h⊢
  simp at h⊢
  intro _ e
  rw[h.2]at e;revert e;decide
 unfold Hd.right
 simp[A,h]
theorem Hd.right_new{ts:List bB}{v:V}(d:Hd)(h:v.at ts [110,101,119]=true):Hd.right ts d v=({d with mark:=(v.here ts).at_,op:=6},v.go1 ts):=by
 unfold Hd.right
 simp[h]
theorem Hd.right_atom{ts:List bB}{v:V}(d:Hd)(B:v.at ts [103,111]=false)(A:v.at ts [110,101,119]=false)(h:(v.here ts).k≠97):Hd.right ts d v=Hd.sum ts {d with mark:=(v.here ts).at_,op:=1,y:=v.here ts} (v.named ts true):=by
 unfold Hd.right
 simp[B,A,h]
theorem Hd.simple_bad{ts:List bB}{v:V}(d:Hd)(A:(v.named ts false).ok=false):(Hd.simple ts d v).2=v.named ts false:=by
 unfold Hd.simple
 repeat' split
 all_goals simp[V.list_no A,V.side_no A,V.must_no A,V.named_no A,Hd.right_no A]
theorem RV.nameB{a:Nat}{s:ByteArray}{ts:List bB}{v:V}{c:Nat}(h:RV w a b s ts v c):((fP (v.here ts).k:Int)==1)=((v.here ts).k==97):=by
 rcases h.kinds with e|e|e|e|e<;>rw[e]<;>rfl
section
variable {w:World} {br bw bs:Nat} {s:ByteArray} {ts:List bB} {v:V} {dep:Nat} {sb:Value}
theorem zA(h:RV w br bw s ts v dep)(d:Hd)(hd:yq d)(p:aM w bs (bK (gF d) bV sb))(q:bs≠br)(x:bs≠bw):
  Calls Tryz.prog 267 #[Pt br 0,Pt bs 0] w fun r w'=>tY (gK br bw bs) w w' br bw s ts (Hd.right ts d v).2 dep r (fun r w'=>r=.returned (.tuple #[])/\Jc w' w.heap.size bs (fH (Hd.right ts d v).1) (cY (Hd.right ts d v).1) sb):=by
 have a5:=p.lt
 have a8:=h.rb.lt
 have a6:=h.wb.lt
 have a0:Hid (¬gO br bw bs):=fun e=>by rcases e with e|e<;>contradiction
 have a9:Hid (∀i,gO br bw i->i< w.heap.size):=fun i e=>by rcases e with e|e<;>omega
 obtain⟨J,X,O,c⟩:=fK h p (aC.refl (gK br bw bs) w) hd
 have aa:Hid True:=trivial
 have c1:=h.rb.cell 1
 have W:Ce w br (1+0) (aB (fP (v.here ts).k)):=h.rb.cell 1
 have c3:=h.rb.cell 3
 have T:Ce w br (1+2) (aB (v.here ts).at_):=h.rb.cell 3
 have M:=h.nameB
 have c2:Ce w bs 2 (aB 0):=p.cell 2
 have c8:Ce w bs 8 (aB 0):=p.cell 8
 have cf:=p.fz
 clear h p hd
 go_in
 go_wp2_with fail
 cases N:v.at ts [103,111]
 case true=>
  obtain⟨B,E,o⟩:=bY N (Hd.right_go d N) (V.at_open N)
  clear N c1 W c3 T M c2 c8 cf
  refine(ug J ⟨#[103,111]⟩).mono ?_
  rintro e g ⟨rfl,hq⟩
  subst g
  rw[show V.at ts v (ByteArray.mk #[103,111]).data.toList=true from B.out]
  go_wp2_with fail
  refine(BM J X q x o).mono ?_
  rintro e Q ⟨F,R⟩
  have G:=aG (O.trans F)
  clear F
  rcases R with⟨D,C,rfl,sE,Z,Y⟩|⟨D,b,rfl,C⟩
  ·have L:=aG (And.intro D (And.intro C (And.intro Z (cU Y O.size))))
   clear D C Z Y
   go_wp2_with fail
   first|go_end0|refine bodyPost_ret (results_none rfl _ _ _) rfl ?_
   rw[E.out]
   refine⟨G,.inl ⟨L.1,L.2.1,rfl,sE,?_,?_⟩⟩
   ·have e:fH {d with mark:=(v.here ts).at_,op:=7,f:=(v.go1 ts).here ts,args:=(V.list ts true ((v.go1 ts).named ts false)).1}={gF d with kind:=7,wa:=(v.here ts).at_,nt:=((v.go1 ts).here ts).text,na:=((v.go1 ts).here ts).at_,nn:=0}:=by simp[fH,gF,ta,fX,c.out.bin,c.out.field]
    rw[e];exact L.2.2.1
   ·have e:cY {d with mark:=(v.here ts).at_,op:=7,f:=(v.go1 ts).here ts,args:=(V.list ts true ((v.go1 ts).named ts false)).1}=(V.list ts true ((v.go1 ts).named ts false)).1:=by simp[cY]
    rw[e];exact L.2.2.2
  ·have K:Hid (((V.list ts true ((v.go1 ts).named ts false)).2).ok=false/\aM Q b #[aB ((V.list ts true ((v.go1 ts).named ts false)).2).e,aB ((V.list ts true ((v.go1 ts).named ts false)).2).a]):=⟨D,C⟩
   clear D C
   go_wp2_with fail
   rw[E.out]
   exact⟨rfl,G,.inr ⟨K.1,b,rfl,K.2⟩⟩
 case false=>
 have B:=aG N
 clear N
 refine(ug J ⟨#[103,111]⟩).mono ?_
 rintro e g ⟨rfl,hq⟩
 subst g
 rw[show V.at ts v (ByteArray.mk #[103,111]).data.toList=false from B.out]
 go_wp2_with fail
 cases H:v.at ts [110,101,119]
 case true=>
  obtain⟨A,E,o⟩:=bY H (Hd.right_new d H) (V.at_open H)
  clear H
  refine(ug J ⟨#[110,101,119]⟩).mono ?_
  rintro e g ⟨rfl,hq⟩
  subst g
  rw[show V.at ts v (ByteArray.mk #[110,101,119]).data.toList=true from A.out]
  obtain⟨Q,j⟩:=bM ((w.setCell (Ad bs 2) (aB 6)).setCell (Ad bs 8) (aB (v.here ts).at_))
  have m:Hid (RV Q br bw s ts v dep):=by show RV _ _ _ _ _ _ _;rw[j];exact(J.setO bs 2 _ q x).setO bs 8 _ q x
  have n:Hid (aM Q bs (bK {gF d with kind:=6,wa:=(v.here ts).at_} bV sb)):=by show aM _ _ _;rw[j];exact(X.pkind 6 6 rfl).pwa _
  have G:Hid (aC (gK br bw bs) w Q):=by show aC _ _ _;rw[j];exact(O.thrS 2 _).thrS 8 _
  replace j:=aG j
  have a7:br≠bs:=fun e=>q e.symm
  go_wp2_with fail
  rw[<-j.out]
  clear j c1 W c3 T M c2 c8 cf
  refine(rL m o).mono ?_
  rintro e w2 ⟨F,R⟩
  obtain⟨P,a3⟩:=aN (G.trans F.thr2) (n.kept F a0)
  clear F
  rcases R with⟨D,C,rfl⟩|⟨D,b,rfl,C⟩
  case inr=>
   have K:Hid ((v.go1 ts).ok=false/\aM w2 b #[aB (v.go1 ts).e,aB (v.go1 ts).a]):=⟨D,C⟩
   clear D C
   go_wp2_with fail
   rw[E.out]
   exact⟨rfl,P,.inr ⟨K.1,b,rfl,K.2⟩⟩
  case inl=>
  obtain⟨a2,a4⟩:=aN C D
  clear D C
  go_wp2_with fail
  first|go_end0|refine bodyPost_ret (results_none rfl _ _ _) rfl ?_
  rw[E.out]
  refine⟨P,.inl ⟨a4,a2,rfl,bV,?_,?_⟩⟩
  ·have e:fH {d with mark:=(v.here ts).at_,op:=6}={gF d with kind:=6,wa:=(v.here ts).at_}:=by simp[fH,gF,ta,fX,c.out.bin,c.out.field,c.out.f]
   rw[e];exact a3
  ·have e:cY {d with mark:=(v.here ts).at_,op:=6}=[]:=by simp[cY]
   rw[e];exact World.ownsRow_nil _ _ _ _
 case false=>
 have A:=aG H
 clear H
 refine(ug J ⟨#[110,101,119]⟩).mono ?_
 rintro e g ⟨rfl,hq⟩
 subst g
 rw[show V.at ts v (ByteArray.mk #[110,101,119]).data.toList=false from A.out]
 cases F:((v.here ts).k==97)
 case true=>
  rw[F]at M
  have a1:Hid ((v.here ts).k=97):=beq_iff_eq.1 F
  clear F
  go_wp2_with fail
  clear c1 W c3 T M c2 c8 cf
  refine(qJ J a1 d c X q x).mono ?_
  rintro e Q ⟨F,R⟩
  have G:=aG (O.trans F)
  clear F
  rcases R with⟨D,C,rfl,sE,Z,Y⟩|⟨D,b,rfl,C⟩
  ·have L:=aG (And.intro D (And.intro C (And.intro Z (cU Y O.size))))
   clear D C Z Y
   go_wp2_with fail
   first|go_end0|refine bodyPost_ret (results_none rfl _ _ _) rfl ?_
   exact⟨G,.inl ⟨L.1,L.2.1,rfl,sE,L.2.2.1,L.2.2.2⟩⟩
  ·have K:Hid (((Hd.right ts d v).2).ok=false/\aM Q b #[aB ((Hd.right ts d v).2).e,aB ((Hd.right ts d v).2).a]):=⟨D,C⟩
   clear D C
   go_wp2_with fail
   exact⟨rfl,G,.inr ⟨K.1,b,rfl,K.2⟩⟩
 case false=>
  rw[F]at M
  have E:=aG (Hd.right_atom d B A (beq_eq_false_iff_ne.1 F))
  clear F
  go_wp2_with fail
  clear c1 W c3 T M c2 c8 cf
  refine(om J).mono ?_
  rintro e Q ⟨F,R⟩
  obtain⟨G,n⟩:=aN (O.trans F.thr2) (X.kept F a0)
  clear F
  rcases R with⟨D,C,rfl⟩|⟨D,b,rfl,C⟩
  case inr=>
   have K:Hid ((v.named ts true).ok=false/\aM Q b #[aB (v.named ts true).e,aB (v.named ts true).a]):=⟨D,C⟩
   clear D C
   go_wp2_with fail
   rw[E.out,Hd.sum_no K.out.1]
   exact⟨rfl,G,.inr ⟨K.1,b,rfl,K.2⟩⟩
  case inl=>
  obtain⟨m,ab⟩:=aN C D
  clear D C
  have z:=aG (ur (ts:=ts) (u:=v.named ts true) (t:=v.here ts) (v.here ts).at_ c)
  generalize l:Hd.sum ts {d with mark:=(v.here ts).at_,op:=1,y:=v.here ts} (v.named ts true)=S at *
  replace l:=aG l
  go_wp2_with fail
  refine(JU m (v.here ts) {d with mark:=(v.here ts).at_,op:=1,y:=v.here ts} c.bin n q x ⟨_,_,_,rfl⟩ rfl).mono ?_
  rw[l.out]
  rintro e w2 ⟨F,R⟩
  have P:=aG (G.trans F)
  clear F
  rcases R with⟨D,C,rfl,sE,Z,Y⟩|⟨D,b,rfl,C⟩
  ·have L:=aG (And.intro D (And.intro C (And.intro Z (cU Y G.size))))
   clear D C Z Y
   go_wp2_with fail
   first|go_end0|refine bodyPost_ret (results_none rfl _ _ _) rfl ?_
   rw[E.out]
   exact⟨P,.inl ⟨L.1,L.2.1,rfl,sE,by rw[z.out.1];exact L.2.2.1,by rw[z.out.2];exact L.2.2.2⟩⟩
  ·have K:Hid ((S.2).ok=false/\aM w2 b #[aB (S.2).e,aB (S.2).a]):=⟨D,C⟩
   clear D C
   go_wp2_with fail
   rw[E.out]
   exact⟨rfl,P,.inr ⟨K.1,b,rfl,K.2⟩⟩
end
end
section
theorem Hd.simple_call{ts:List bB}{v:V}(d:Hd)(h:(v.named ts false).at ts [40]=true):Hd.simple ts d v=({d with op:=11,f:=v.here ts,args:=(V.list ts true (v.named ts false)).1},(V.list ts true (v.named ts false)).2):=by
 unfold Hd.simple;simp[h]
theorem Hd.simple_dot{ts:List bB}{v:V}(d:Hd)(h:(v.named ts false).at ts [40]=false)(A:(v.named ts false).at ts [46]=true):Hd.simple ts d v=
  ({d with x:=v.here ts,op:=5,field:=(((v.named ts false).go1 ts).here ts).text,y:=((V.sideV ts ((v.named ts false).go1 ts)).must ts [61]).here ts},((V.sideV ts ((v.named ts false).go1 ts)).must ts [61]).named ts true):=by
 unfold Hd.simple;simp[h,A,V.side_eq]
theorem Hd.simple_set{ts:List bB}{v:V}(d:Hd)(h:(v.named ts false).at ts [40]=false)(A:(v.named ts false).at ts [46]=false):Hd.simple ts d v=Hd.right ts {d with x:=v.here ts} ((v.named ts false).must ts [61]):=by
 unfold Hd.simple;simp[h,A]
section
variable {w:World} {br bw bs:Nat} {s:ByteArray} {ts:List bB} {v:V} {dep:Nat} {sb:Value}
theorem Hl(h:RV w br bw s ts v dep)(a5:True)(d:Hd)(hd:yq d)(hS:aM w bs (bK (gF d) bV sb))(W:bs≠br)(T:bs≠bw):
  Calls Tryz.prog 192 #[Pt br 0,Pt bs 0] w fun r w'=>tY (gK br bw bs) w w' br bw s ts (Hd.simple ts d v).2 dep r (fun r w'=>r=.returned (.tuple #[])/\Jc w' w.heap.size bs (fH (Hd.simple ts d v).1) (cY (Hd.simple ts d v).1) sb):=by
 have ay:=hS.lt
 have b2:=h.rb.lt
 have b1:=h.wb.lt
 have R:Hid (¬gO br bw bs):=fun e=>by rcases e with e|e<;>contradiction
 have a8:Hid (∀i,gO br bw i->i< w.heap.size):=fun i e=>by rcases e with e|e<;>omega
 obtain⟨am,aq,au,l⟩:=fK h hS (aC.refl (gK br bw bs) w) hd
 have b5:Hid True:=trivial
 have b4:=aG a5
 clear h hS hd a5
 go_in
 go_wp2_with fail
 refine(jl am).mono ?_
 rintro e w1 ⟨F,O⟩
 obtain⟨a2,ap⟩:=aN (au.trans F.thr2) (aq.kept F R)
 clear F
 rcases O with⟨C,B,rfl⟩|⟨C,b,rfl,B⟩
 case inr=>
  have G:Hid ((v.named ts false).ok=false/\aM w1 b #[aB (v.named ts false).e,aB (v.named ts false).a]):=⟨C,B⟩
  clear C B
  go_wp2_with fail
  rw[Hd.simple_bad d G.out.1]
  exact⟨rfl,a2,.inr ⟨G.1,b,rfl,G.2⟩⟩
 case inl=>
 obtain⟨al,b8⟩:=aN B C
 clear C B
 have a4:Hid ((v.named ts false).at ts [40]=true->_):=fun e=>Hd.simple_call d e
 have a3:Hid ((v.named ts false).at ts [40]=false->(v.named ts false).at ts [46]=true->_):=fun e e2=>Hd.simple_dot d e e2
 have p:Hid ((v.named ts false).at ts [40]=false->(v.named ts false).at ts [46]=false->_):=fun e e2=>Hd.simple_set d e e2
 generalize hu:v.named ts false=u at *
 clear hu
 generalize ae:v.here ts=t at *
 clear ae
 obtain⟨w2,E⟩:=bM (w1.alloc (.cells (yP t) 119))
 have Q:Hid (RV w2 br bw s ts u dep):=by show RV _ _ _ _ _ _ _;rw[E];exact al.below (ba _ _)
 have a0:Hid (aM w2 bs (bK (gF d) bV sb)):=by show aM _ _ _;rw[E];exact ap.alloc _
 have j:Hid (aC (gK br bw bs) w w2):=by show aC _ _ _;rw[E];exact a2.alloc _
 have K:Hid (aM w2 w1.heap.size (yP t)):=by show aM _ _ _;rw[E];exact aM.new _ _ _
 replace E:=aG E
 unfold gH
 have ax:=a2.size
 go_wp2_with fail
 rw[<-E.out]
 clear E
 have b0:=K.lt
 cases hc:u.at ts [40]
 case true=>
  obtain⟨A,D⟩:=aN hc (a4 hc)
  clear hc
  refine(ug Q ⟨#[40]⟩).mono ?_
  rintro e wq ⟨rfl,hq⟩
  subst wq
  rw[show V.at ts u (ByteArray.mk #[40]).data.toList=true from A.out]
  have n0:=K.cell 0
  have n1:=K.cell 1
  have n2:=K.cell 2
  go_wp2_with fail
  clear n0 n1 n2
  refine(BP Q t a0 W T).mono ?_
  rintro e N ⟨F,O⟩
  have L:=aG (j.trans F)
  clear F
  rcases O with⟨C,B,rfl,sE,h5,h6⟩|⟨C,b,rfl,B⟩
  ·have Z:=aG (And.intro C (And.intro B (And.intro h5 (cU h6 j.size))))
   clear C B h5 h6
   go_wp2_with fail
   first|go_end0|refine bodyPost_ret (results_none rfl _ _ _) rfl ?_
   rw[D.out]
   refine⟨L,.inl ⟨Z.1,Z.2.1,rfl,sE,?_,?_⟩⟩
   ·have e:fH {d with op:=11,f:=t,args:=(V.list ts true u).1}={gF d with kind:=11,nt:=t.text,na:=t.at_,nn:=0}:=by simp[fH,gF,ta,fX,l.out.bin,l.out.field]
    rw[e];exact Z.2.2.1
   ·have e:cY {d with op:=11,f:=t,args:=(V.list ts true u).1}=(V.list ts true u).1:=by simp[cY]
    rw[e];exact Z.2.2.2
  ·have G:Hid (((V.list ts true u).2).ok=false/\aM N b #[aB ((V.list ts true u).2).e,aB ((V.list ts true u).2).a]):=⟨C,B⟩
   clear C B
   go_wp2_with fail
   rw[D.out]
   exact⟨rfl,L,.inr ⟨G.1,b,rfl,G.2⟩⟩
 case false=>
 have A:=aG hc
 clear hc
 refine(ug Q ⟨#[40]⟩).mono ?_
 rintro e wq ⟨rfl,hq⟩
 subst wq
 rw[show V.at ts u (ByteArray.mk #[40]).data.toList=false from A.out]
 go_wp2_with fail
 cases M:u.at ts [46]
 case false=>
  obtain⟨Y,D⟩:=aN M (p A M)
  clear M
  refine(dx Q ⟨#[46]⟩ Y).mono ?_
  rintro e wq ⟨rfl,hq⟩
  subst wq
  go_wp2_with fail
  refine(gV Q ⟨#[61]⟩).mono ?_
  rintro e N ⟨F,O⟩
  obtain⟨L,H,J⟩:=bY (j.trans F.thr2) (a0.kept F R) (K.kept F (fun e=>by have:=a8 _ e;omega))
  clear F
  rcases O with⟨C,B,rfl⟩|⟨C,b,rfl,B⟩
  case inr=>
   have G:Hid ((u.must ts [61]).ok=false/\aM N b #[aB (u.must ts [61]).e,aB (u.must ts [61]).a]):=⟨C,B⟩
   clear C B
   go_wp2_with fail
   rw[D.out,Hd.right_no G.out.1]
   exact⟨rfl,L,.inr ⟨G.1,b,rfl,G.2⟩⟩
  case inl=>
  obtain⟨P,aw⟩:=aN B C
  clear C B
  have k:Hid (RV N br bw s ts (u.must ts [61]) dep):=P
  clear P
  have P:=k
  clear k
  generalize n:u.must ts [61]=S at *
  clear n
  have n0:=J.cell 0
  have n1:=J.cell 1
  have n2:=J.cell 2
  have ab:=L.size
  have ah:=H.lt
  have c3:Ce N bs 3 (.string ⟨(gF d).lt.toArray⟩):=H.cell 3
  have c4:Ce N bs 4 (aB (gF d).la):=H.cell 4
  have c5:Ce N bs 5 (aB 0):=H.cell 5
  have cf:=H.fz
  obtain⟨m,E⟩:=bM (((N.setCell (Ad bs 3) (.string ⟨t.text.toArray⟩)).setCell (Ad bs 4) (aB t.at_)).setCell (Ad bs 5) (aB 0))
  have o:Hid (RV m br bw s ts S dep):=by show RV _ _ _ _ _ _ _;rw[E];exact((P.setO bs 3 _ W T).setO bs 4 _ W T).setO bs 5 _ W T
  have z:Hid (aM m bs (bK (gF {d with x:=t}) bV sb)):=by show aM _ _ _;rw[E];exact H.pleft t.text t.at_ 0 0 rfl
  have g:Hid (aC (gK br bw bs) w m):=by show aC _ _ _;rw[E];exact((L.thrS 3 _).thrS 4 _).thrS 5 _
  replace E:=aG E
  have ag:w1.heap.size≠bs:=by omega
  go_wp2_with fail
  rw[<-E.out]
  clear E n0 n1 n2 c3 c4 c5 cf
  refine(zA o {d with x:=t} ⟨l.bin,l.field,l.f⟩ z W T).mono ?_
  rintro e w5 ⟨F,O⟩
  have X:=aG (g.trans F)
  clear F
  rcases O with⟨C,B,rfl,sE,h5,h6⟩|⟨C,b,rfl,B⟩
  ·have Z:=aG (And.intro C (And.intro B (And.intro h5 (cU h6 g.size))))
   clear C B h5 h6
   go_wp2_with fail
   first|go_end0|refine bodyPost_ret (results_none rfl _ _ _) rfl ?_
   rw[D.out]
   exact⟨X,.inl ⟨Z.1,Z.2.1,rfl,sE,Z.2.2.1,Z.2.2.2⟩⟩
  ·have G:Hid (((Hd.right ts {d with x:=t} S).2).ok=false/\aM w5 b #[aB ((Hd.right ts {d with x:=t} S).2).e,aB ((Hd.right ts {d with x:=t} S).2).a]):=⟨C,B⟩
   clear C B
   go_wp2_with fail
   rw[D.out]
   exact⟨rfl,X,.inr ⟨G.1,b,rfl,G.2⟩⟩
 case true=>
  obtain⟨Y,D⟩:=aN M (a3 A M)
  clear M
  refine(cK Q ⟨#[46]⟩ Y).mono ?_
  rintro e N ⟨F,O⟩
  obtain⟨L,H,J⟩:=bY (j.trans F.thr2) (a0.kept F R) (K.kept F (fun e=>by have:=a8 _ e;omega))
  clear F
  rcases O with⟨C,B,rfl⟩|⟨C,b,rfl,B⟩
  case inr=>
   have G:Hid ((u.go1 ts).ok=false/\aM N b #[aB (u.go1 ts).e,aB (u.go1 ts).a]):=⟨C,B⟩
   clear C B
   go_wp2_with fail
   rw[D.out]
   simp only[V.sideV_no G.out.1,V.must_no G.out.1,V.named_no G.out.1]
   exact⟨rfl,L,.inr ⟨G.1,b,rfl,G.2⟩⟩
  case inl=>
  obtain⟨P,aw⟩:=aN B C
  clear C B
  generalize n:u.go1 ts=S at *
  clear n
  have n0:=J.cell 0
  have n1:=J.cell 1
  have n2:=J.cell 2
  have ab:=L.size
  have ah:=H.lt
  have c2:Ce N bs 2 (aB 0):=H.cell 2
  have c3:Ce N bs 3 (.string ⟨(gF d).lt.toArray⟩):=H.cell 3
  have c4:Ce N bs 4 (aB (gF d).la):=H.cell 4
  have c5:Ce N bs 5 (aB 0):=H.cell 5
  have cf:=H.fz
  obtain⟨m,E⟩:=bM ((((N.setCell (Ad bs 2) (aB 5)).setCell (Ad bs 3) (.string ⟨t.text.toArray⟩)).setCell (Ad bs 4) (aB t.at_)).setCell (Ad bs 5) (aB 0))
  have o:Hid (RV m br bw s ts S dep):=by show RV _ _ _ _ _ _ _;rw[E];exact(((P.setO bs 2 _ W T).setO bs 3 _ W T).setO bs 4 _ W T).setO bs 5 _ W T
  have z:Hid (aM m bs (bK {gF {d with x:=t}with kind:=5} bV sb)):=by show aM _ _ _;rw[E];exact(H.pkind 5 5 rfl).pleft t.text t.at_ 0 0 rfl
  have g:Hid (aC (gK br bw bs) w m):=by show aC _ _ _;rw[E];exact(((L.thrS 2 _).thrS 3 _).thrS 4 _).thrS 5 _
  replace E:=aG E
  have ag:w1.heap.size≠bs:=by omega
  go_wp2_with fail
  rw[<-E.out]
  clear E n0 n1 n2 c2 c3 c4 c5 cf K J
  refine(Gf o).mono ?_
  rintro e w5 ⟨F,O⟩
  obtain⟨X,q⟩:=aN (g.trans F.thr2) (z.kept F R)
  clear F
  rcases O with⟨C,B,rfl⟩|⟨C,b,rfl,B⟩
  case inr=>
   have G:Hid ((V.sideV ts S).ok=false/\aM w5 b #[aB (V.sideV ts S).e,aB (V.sideV ts S).a]):=⟨C,B⟩
   clear C B
   go_wp2_with fail
   rw[D.out]
   simp only[V.must_no G.out.1,V.named_no G.out.1]
   exact⟨rfl,X,.inr ⟨G.1,b,rfl,G.2⟩⟩
  case inl=>
  obtain⟨ak,b7⟩:=aN B C
  clear C B
  have c7:Ce w5 bs 7 (aB 0):=q.cell 7
  have cf:=q.fz
  generalize af:(S.here ts).text=sx at *
  clear af
  generalize ad:V.sideV ts S=u5 at *
  clear ad
  obtain⟨w6,E⟩:=bM (w5.setCell (Ad bs 7) (aB (fX sx)))
  have aj:Hid (RV w6 br bw s ts u5 dep):=by show RV _ _ _ _ _ _ _;rw[E];exact ak.setO bs 7 _ W T
  have ao:Hid (aM w6 bs (bK {gF {d with x:=t}with kind:=5,side:=fX sx} bV sb)):=by show aM _ _ _;rw[E];exact q.pside _
  have ar:Hid (aC (gK br bw bs) w w6):=by show aC _ _ _;rw[E];exact X.thrS 7 _
  replace E:=aG E
  go_wp2_with fail
  rw[<-E.out]
  clear E c7 cf
  refine(gV aj ⟨#[61]⟩).mono ?_
  rintro e w7 ⟨F,O⟩
  obtain⟨a9,an⟩:=aN (ar.trans F.thr2) (ao.kept F R)
  clear F
  rcases O with⟨C,B,rfl⟩|⟨C,b,rfl,B⟩
  case inr=>
   have G:Hid ((u5.must ts [61]).ok=false/\aM w7 b #[aB (u5.must ts [61]).e,aB (u5.must ts [61]).a]):=⟨C,B⟩
   clear C B
   go_wp2_with fail
   rw[D.out]
   simp only[V.named_no G.out.1]
   exact⟨rfl,a9,.inr ⟨G.1,b,rfl,G.2⟩⟩
  case inl=>
  obtain⟨a7,b6⟩:=aN B C
  clear C B
  have a6:Hid (RV w7 br bw s ts (u5.must ts [61]) dep):=a7
  clear a7
  generalize ac:u5.must ts [61]=u7 at *
  clear ac
  go_wp2_with fail
  refine(om a6).mono ?_
  rintro e w8 ⟨F,O⟩
  obtain⟨a1,c⟩:=aN (a9.trans F.thr2) (an.kept F R)
  clear F
  rcases O with⟨C,B,rfl⟩|⟨C,b,rfl,B⟩
  case inr=>
   have G:Hid ((u7.named ts true).ok=false/\aM w8 b #[aB (u7.named ts true).e,aB (u7.named ts true).a]):=⟨C,B⟩
   clear C B
   go_wp2_with fail
   rw[D.out]
   exact⟨rfl,a1,.inr ⟨G.1,b,rfl,G.2⟩⟩
  case inl=>
  obtain⟨ai,av⟩:=aN B C
  clear C B
  have b3:Ce w8 bs 12 bV:=c.cell 12
  have cf:=c.fz
  have aa:=a1.size
  have az:=c.lt
  unfold gA
  go_wp2_with fail
  first|go_end0|refine bodyPost_ret (results_none rfl _ _ _) rfl ?_
  rw[D.out]
  refine⟨(a1.thrS 12 _).alloc _,.inl ⟨av,(ai.setO bs 12 _ W T).below (ba _ _),rfl,.slice (some (Ad w8.heap.size 0)) 1 1,?_,?_⟩⟩
  ·have e:fH {d with x:=t,op:=5,field:=sx,y:=u7.here ts}={gF {d with x:=t}with kind:=5,side:=fX sx}:=by simp[fH,gF,ta,l.out.bin,l.out.f]
   rw[e];exact(c.pright _).alloc _
  ·have e:cY {d with x:=t,op:=5,field:=sx,y:=u7.here ts}=[u7.here ts]:=by simp[cY,po,l.out.bin]
   rw[e];exact jm w8.heap.size (by simp[World.setCell]) _ _ rfl rfl aa
end
end
section
def dQ(ts:List bB)(h:Hd)(v:V):Hd×V:=
 if(v.here ts).text=[108,111,99,107]then({h with op:=9,y:=(v.go1 ts).here ts},(v.go1 ts).named ts false)
 else if(v.here ts).text=[117,110,108,111,99,107]then({h with op:=10,y:=(v.go1 ts).here ts},(v.go1 ts).named ts false)
 else if(v.here ts).text=[106,111,105,110]then({h with op:=8,y:=(v.go1 ts).here ts},(v.go1 ts).named ts false)
 else if(v.here ts).text=[114,101,116,117,114,110]then(if(v.go1 ts).at ts [59]then({h with op:=12},v.go1 ts)else({h with op:=12,has:=true,y:=(v.go1 ts).here ts},(v.go1 ts).named ts true))
 else if(v.here ts).text=[103,111]then({h with op:=7,f:=(v.go1 ts).here ts,args:=(V.list ts true ((v.go1 ts).named ts false)).1},(V.list ts true ((v.go1 ts).named ts false)).2)
 else Hd.simple ts h v
theorem V.named_k{ts:List bB}{v:V}(h:(v.named ts false).ok=true)(A:v.ok=true):(v.here ts).k=97:=by
 cases B:v.bad ts false
 ·unfold V.bad at B
  simpa using B
 ·rw[V.named_not A B,(V.flt_yes A 5 _ (by decide)).1]at h
  cases h
section
variable {w:World} {br bw bs:Nat} {s:ByteArray} {ts:List bB} {v:V} {dep:Nat} {sb:Value}
theorem RV.noText(h:RV w br bw s ts v dep)(C:(v.here ts).k=97)(t:aJ)(B:t∈iI):(v.here ts).text≠t:=by
 intro e
 obtain⟨i,_,A⟩:=V.here_lex h.tk h.lt
 have:=rP s.data.toList i (by rw[<-A,e];exact B)
 rw[<-A]at this
 omega
theorem Er(h:RV w br bw s ts v dep)(d:Hd)(hd:yq d)(hm:d.mark=(v.here ts).at_)(hh:d.has=false)(hS:aM w bs (bK (gF d) bV sb))(h1:bs≠br)(h2:bs≠bw):
  Calls Tryz.prog 129 #[Pt br 0,Pt bs 0] w fun r w'=>tY (gK br bw bs) w w' br bw s ts (dQ ts d v).2 dep r (fun r w'=>r=.returned (.tuple #[])/\Jc w' w.heap.size bs (fH (dQ ts d v).1) (cY (dQ ts d v).1) sb):=by
 have az:=hS.lt
 have b1:=h.rb.lt
 have b0:=h.wb.lt
 have g:Hid (¬gO br bw bs):=fun e=>by rcases e with e|e<;>contradiction
 have b2:Hid (∀i,gO br bw i->i< w.heap.size):=fun i e=>by rcases e with e|e<;>omega
 obtain⟨L,a3,l,m⟩:=fK h hS (aC.refl (gK br bw bs) w) hd
 have b3:Hid True:=trivial
 have c1:=h.rb.cell 1
 have ak:Ce w br (1+0) (aB (fP (v.here ts).k)):=h.rb.cell 1
 have c3:=h.rb.cell 3
 have aj:Ce w br (1+2) (aB (v.here ts).at_):=h.rb.cell 3
 have a8:=h.nameB
 obtain⟨HM,HH⟩:=aN hm hh
 have R:Hid (∀u,u∈iI->v.at ts u=decide ((v.here ts).text=u)):=fun u hu=>h.text_at u hu
 have a6:Hid ((v.here ts).k=97->∀t,t∈iI->(v.here ts).text≠t):=fun e t ht=>h.noText e t ht
 have c2:Ce w bs 2 (aB 0):=hS.cell 2
 have Z:=hS.fz
 clear h hS hd hm hh
 cases E:((v.here ts).k==97)
 case true=>
  have a0:(v.here ts).k=97:=beq_iff_eq.1 E
  rw[E]at a8
  have A:Hid (dQ ts d v=Hd.simple ts d v):=by show _=_;unfold dQ;rw[if_neg (a6.out a0 [108,111,99,107] (by decide)),if_neg (a6.out a0 [117,110,108,111,99,107] (by decide)),if_neg (a6.out a0 [106,111,105,110] (by decide)),if_neg (a6.out a0 [114,101,116,117,114,110] (by decide)),if_neg (a6.out a0 [103,111] (by decide))]
  clear E a0
  go_in
  go_wp2_with fail
  clear c1 ak c3 aj a8 c2 Z
  refine(Hl L trivial d m a3 h1 h2).mono ?_
  rintro e S ⟨E,X⟩
  have H:=aG (l.trans E)
  clear E
  rcases X with⟨D,C,rfl,sE,h5,h6⟩|⟨D,b,rfl,C⟩
  ·have HX:=aG (And.intro D (And.intro C (And.intro h5 (cU h6 l.size))))
   clear D C h5 h6
   go_wp2_with fail
   first|go_end0|refine bodyPost_ret (results_none rfl _ _ _) rfl ?_
   rw[A.out]
   exact⟨H,.inl ⟨HX.1,HX.2.1,rfl,sE,HX.2.2.1,HX.2.2.2⟩⟩
  ·have J:Hid (((Hd.simple ts d v).2).ok=false/\aM S b #[aB ((Hd.simple ts d v).2).e,aB ((Hd.simple ts d v).2).a]):=⟨D,C⟩
   clear D C
   go_wp2_with fail
   rw[A.out]
   exact⟨rfl,H,.inr ⟨J.1,b,rfl,J.2⟩⟩
 case false=>
 have ay:Hid ((v.here ts).k≠97):=beq_eq_false_iff_ne.1 E
 rw[E]at a8
 clear E
 go_in
 go_wp2_with fail
 clear c1 ak c3 aj a8
 by_cases a2:(v.here ts).text=[103,111]
 case pos=>
  have HE:=aG a2
  have B:v.at ts [103,111]=true:=by rw[R.out _ (by decide)];exact decide_eq_true a2
  obtain⟨Y,a5⟩:=aN B (V.at_open B)
  clear a2 B
  have A:Hid (dQ ts d v=({d with op:=7,f:=(v.go1 ts).here ts,args:=(V.list ts true ((v.go1 ts).named ts false)).1},(V.list ts true ((v.go1 ts).named ts false)).2)):=by show _=_;unfold dQ;rw[HE.out];rfl
  refine(ug L ⟨#[103,111]⟩).mono ?_
  rintro e o ⟨rfl,hq⟩
  subst o
  rw[show V.at ts v (ByteArray.mk #[103,111]).data.toList=true from Y.out]
  go_wp2_with fail
  refine(BM L a3 h1 h2 a5).mono ?_
  rintro e S ⟨E,X⟩
  have H:=aG (l.trans E)
  clear E
  rcases X with⟨D,C,rfl,sE,h5,h6⟩|⟨D,b,rfl,C⟩
  ·have HX:=aG (And.intro D (And.intro C (And.intro h5 (cU h6 l.size))))
   clear D C h5 h6
   go_wp2_with fail
   first|go_end0|refine bodyPost_ret (results_none rfl _ _ _) rfl ?_
   rw[A.out]
   refine⟨H,.inl ⟨HX.1,HX.2.1,rfl,sE,?_,?_⟩⟩
   ·have e:fH {d with op:=7,f:=(v.go1 ts).here ts,args:=(V.list ts true ((v.go1 ts).named ts false)).1}={gF d with kind:=7,wa:=(v.here ts).at_,nt:=((v.go1 ts).here ts).text,na:=((v.go1 ts).here ts).at_,nn:=0}:=by simp[fH,gF,ta,fX,m.out.bin,m.out.field,HM.out]
    rw[e];exact HX.2.2.1
   ·have e:cY {d with op:=7,f:=(v.go1 ts).here ts,args:=(V.list ts true ((v.go1 ts).named ts false)).1}=(V.list ts true ((v.go1 ts).named ts false)).1:=by simp[cY]
    rw[e];exact HX.2.2.2
  ·have J:Hid (((V.list ts true ((v.go1 ts).named ts false)).2).ok=false/\aM S b #[aB ((V.list ts true ((v.go1 ts).named ts false)).2).e,aB ((V.list ts true ((v.go1 ts).named ts false)).2).a]):=⟨D,C⟩
   clear D C
   go_wp2_with fail
   rw[A.out]
   exact⟨rfl,H,.inr ⟨J.1,b,rfl,J.2⟩⟩
 case neg=>
 have am:=aG a2
 have B:v.at ts [103,111]=false:=by rw[R.out _ (by decide)];exact decide_eq_false a2
 have ao:=aG B
 clear a2 B
 refine(ug L ⟨#[103,111]⟩).mono ?_
 rintro e o ⟨rfl,hq⟩
 subst o
 rw[show V.at ts v (ByteArray.mk #[103,111]).data.toList=false from ao.out]
 go_wp2_with fail
 by_cases O:(v.here ts).text=[106,111,105,110]
 case pos=>
  have HE:=aG O
  have B:v.at ts [106,111,105,110]=true:=by rw[R.out _ (by decide)];exact decide_eq_true O
  obtain⟨Y,a5⟩:=aN B (V.at_open B)
  clear O B
  have A:Hid (dQ ts d v=({d with op:=8,y:=(v.go1 ts).here ts},(v.go1 ts).named ts false)):=by show _=_;unfold dQ;rw[HE.out];rfl
  refine(cK L ⟨#[106,111,105,110]⟩ Y).mono ?_
  rintro e S ⟨E,X⟩
  obtain⟨H,M⟩:=aN (l.trans E.thr2) (a3.kept E g)
  clear E
  rcases X with⟨D,C,rfl⟩|⟨D,b,rfl,C⟩
  case inr=>
   have J:Hid ((v.go1 ts).ok=false/\aM S b #[aB (v.go1 ts).e,aB (v.go1 ts).a]):=⟨D,C⟩
   clear D C
   go_wp2_with fail
   rw[A.out]
   simp only[V.named_no J.out.1]
   exact⟨rfl,H,.inr ⟨J.1,b,rfl,J.2⟩⟩
  case inl=>
  obtain⟨z,ai⟩:=aN C D
  clear D C
  clear c2 Z
  have c2:Ce S bs 2 (aB 0):=M.cell 2
  have Z:=M.fz
  generalize q:v.go1 ts=G at *
  clear q
  obtain⟨p,K⟩:=bM (S.setCell (Ad bs 2) (aB 8))
  have Q:Hid (RV p br bw s ts G dep):=by show RV _ _ _ _ _ _ _;rw[K];exact z.setO bs 2 _ h1 h2
  have c:Hid (aM p bs (bK {gF d with kind:=8} bV sb)):=by show aM _ _ _;rw[K];exact M.pkind 8 8 rfl
  have j:Hid (aC (gK br bw bs) w p):=by show aC _ _ _;rw[K];exact H.thrS 2 _
  replace K:=aG K
  go_wp2_with fail
  rw[<-K.out]
  clear K c2 Z
  refine(jl Q).mono ?_
  rintro e W ⟨E,X⟩
  obtain⟨P,F⟩:=aN (j.trans E.thr2) (c.kept E g)
  clear E
  rcases X with⟨D,C,rfl⟩|⟨D,b,rfl,C⟩
  case inr=>
   have J:Hid ((G.named ts false).ok=false/\aM W b #[aB (G.named ts false).e,aB (G.named ts false).a]):=⟨D,C⟩
   clear D C
   go_wp2_with fail
   rw[A.out]
   exact⟨rfl,P,.inr ⟨J.1,b,rfl,J.2⟩⟩
  case inl=>
  obtain⟨x,n⟩:=aN C D
  clear D C
  have aq:=aG (V.named_k n Q.ok)
  have av:Ce W bs 12 bV:=F.cell 12
  have Z:=F.fz
  have af:=P.size
  have au:=F.lt
  unfold gH
  go_wp2_with fail
  first|go_end0|refine bodyPost_ret (results_none rfl _ _ _) rfl ?_
  rw[A.out]
  refine⟨(P.thrS 12 _).alloc _,.inl ⟨n,(x.setO bs 12 _ h1 h2).below (ba _ _),rfl,.slice (some (Ad W.heap.size 0)) 1 1,?_,?_⟩⟩
  ·have e:fH {d with op:=8,y:=G.here ts}={gF d with kind:=8}:=by simp[fH,gF,ta,fX,m.out.bin,m.out.field,m.out.f]
   rw[e];exact(F.pright _).alloc _
  ·have e:cY {d with op:=8,y:=G.here ts}=[G.here ts]:=by simp[cY,po,m.out.bin]
   rw[e];exact jm W.heap.size (by simp[World.setCell]) _ _ rfl (by simp[eh,qt aq.out]) af
 case neg=>
 have aa:=aG O
 have B:v.at ts [106,111,105,110]=false:=by rw[R.out _ (by decide)];exact decide_eq_false O
 have ac:=aG B
 clear O B
 refine(dx L ⟨#[106,111,105,110]⟩ ac).mono ?_
 rintro e o ⟨rfl,hq⟩
 subst o
 go_wp2_with fail
 by_cases N:(v.here ts).text=[108,111,99,107]
 case pos=>
  have HE:=aG N
  have B:v.at ts [108,111,99,107]=true:=by rw[R.out _ (by decide)];exact decide_eq_true N
  obtain⟨Y,a5⟩:=aN B (V.at_open B)
  clear N B
  have A:Hid (dQ ts d v=({d with op:=9,y:=(v.go1 ts).here ts},(v.go1 ts).named ts false)):=by show _=_;unfold dQ;rw[HE.out];rfl
  refine(cK L ⟨#[108,111,99,107]⟩ Y).mono ?_
  rintro e S ⟨E,X⟩
  obtain⟨H,M⟩:=aN (l.trans E.thr2) (a3.kept E g)
  clear E
  rcases X with⟨D,C,rfl⟩|⟨D,b,rfl,C⟩
  case inr=>
   have J:Hid ((v.go1 ts).ok=false/\aM S b #[aB (v.go1 ts).e,aB (v.go1 ts).a]):=⟨D,C⟩
   clear D C
   go_wp2_with fail
   rw[A.out]
   simp only[V.named_no J.out.1]
   exact⟨rfl,H,.inr ⟨J.1,b,rfl,J.2⟩⟩
  case inl=>
  obtain⟨z,ai⟩:=aN C D
  clear D C
  clear c2 Z
  have c2:Ce S bs 2 (aB 0):=M.cell 2
  have Z:=M.fz
  generalize q:v.go1 ts=G at *
  clear q
  obtain⟨p,K⟩:=bM (S.setCell (Ad bs 2) (aB 9))
  have Q:Hid (RV p br bw s ts G dep):=by show RV _ _ _ _ _ _ _;rw[K];exact z.setO bs 2 _ h1 h2
  have c:Hid (aM p bs (bK {gF d with kind:=9} bV sb)):=by show aM _ _ _;rw[K];exact M.pkind 9 9 rfl
  have j:Hid (aC (gK br bw bs) w p):=by show aC _ _ _;rw[K];exact H.thrS 2 _
  replace K:=aG K
  go_wp2_with fail
  rw[<-K.out]
  clear K c2 Z
  refine(jl Q).mono ?_
  rintro e W ⟨E,X⟩
  obtain⟨P,F⟩:=aN (j.trans E.thr2) (c.kept E g)
  clear E
  rcases X with⟨D,C,rfl⟩|⟨D,b,rfl,C⟩
  case inr=>
   have J:Hid ((G.named ts false).ok=false/\aM W b #[aB (G.named ts false).e,aB (G.named ts false).a]):=⟨D,C⟩
   clear D C
   go_wp2_with fail
   rw[A.out]
   exact⟨rfl,P,.inr ⟨J.1,b,rfl,J.2⟩⟩
  case inl=>
  obtain⟨x,n⟩:=aN C D
  clear D C
  have c9:Ce W bs 9 (.string ⟨#[]⟩):=F.cell 9
  have ax:Ce W bs 10 (aB 0):=F.cell 10
  have aw:Ce W bs 11 (aB 0):=F.cell 11
  have Z:=F.fz
  unfold gH
  go_wp2_with fail
  first|go_end0|refine bodyPost_ret (results_none rfl _ _ _) rfl ?_
  rw[A.out]
  refine⟨((P.thrS 9 _).thrS 10 _).thrS 11 _,.inl ⟨n,((x.setO bs 9 _ h1 h2).setO bs 10 _ h1 h2).setO bs 11 _ h1 h2,rfl,bV,?_,?_⟩⟩
  ·have e:fH {d with op:=9,y:=G.here ts}={gF d with kind:=9,nt:=(G.here ts).text,na:=(G.here ts).at_,nn:=0}:=by simp[fH,gF,ta,fX,m.out.bin,m.out.field]
   rw[e];exact F.pnamed _ _ 0 0 rfl
  ·have e:cY {d with op:=9,y:=G.here ts}=[]:=by simp[cY]
   rw[e];exact World.ownsRow_nil _ _ _ _
 case neg=>
 have a9:=aG N
 have B:v.at ts [108,111,99,107]=false:=by rw[R.out _ (by decide)];exact decide_eq_false N
 have ab:=aG B
 clear N B
 refine(dx L ⟨#[108,111,99,107]⟩ ab).mono ?_
 rintro e o ⟨rfl,hq⟩
 subst o
 go_wp2_with fail
 by_cases a1:(v.here ts).text=[117,110,108,111,99,107]
 case pos=>
  have HE:=aG a1
  have B:v.at ts [117,110,108,111,99,107]=true:=by rw[R.out _ (by decide)];exact decide_eq_true a1
  obtain⟨Y,a5⟩:=aN B (V.at_open B)
  clear a1 B
  have A:Hid (dQ ts d v=({d with op:=10,y:=(v.go1 ts).here ts},(v.go1 ts).named ts false)):=by show _=_;unfold dQ;rw[HE.out];rfl
  refine(cK L ⟨#[117,110,108,111,99,107]⟩ Y).mono ?_
  rintro e S ⟨E,X⟩
  obtain⟨H,M⟩:=aN (l.trans E.thr2) (a3.kept E g)
  clear E
  rcases X with⟨D,C,rfl⟩|⟨D,b,rfl,C⟩
  case inr=>
   have J:Hid ((v.go1 ts).ok=false/\aM S b #[aB (v.go1 ts).e,aB (v.go1 ts).a]):=⟨D,C⟩
   clear D C
   go_wp2_with fail
   rw[A.out]
   simp only[V.named_no J.out.1]
   exact⟨rfl,H,.inr ⟨J.1,b,rfl,J.2⟩⟩
  case inl=>
  obtain⟨z,ai⟩:=aN C D
  clear D C
  clear c2 Z
  have c2:Ce S bs 2 (aB 0):=M.cell 2
  have Z:=M.fz
  generalize q:v.go1 ts=G at *
  clear q
  obtain⟨p,K⟩:=bM (S.setCell (Ad bs 2) (aB 10))
  have Q:Hid (RV p br bw s ts G dep):=by show RV _ _ _ _ _ _ _;rw[K];exact z.setO bs 2 _ h1 h2
  have c:Hid (aM p bs (bK {gF d with kind:=10} bV sb)):=by show aM _ _ _;rw[K];exact M.pkind 10 10 rfl
  have j:Hid (aC (gK br bw bs) w p):=by show aC _ _ _;rw[K];exact H.thrS 2 _
  replace K:=aG K
  go_wp2_with fail
  rw[<-K.out]
  clear K c2 Z
  refine(jl Q).mono ?_
  rintro e W ⟨E,X⟩
  obtain⟨P,F⟩:=aN (j.trans E.thr2) (c.kept E g)
  clear E
  rcases X with⟨D,C,rfl⟩|⟨D,b,rfl,C⟩
  case inr=>
   have J:Hid ((G.named ts false).ok=false/\aM W b #[aB (G.named ts false).e,aB (G.named ts false).a]):=⟨D,C⟩
   clear D C
   go_wp2_with fail
   rw[A.out]
   exact⟨rfl,P,.inr ⟨J.1,b,rfl,J.2⟩⟩
  case inl=>
  obtain⟨x,n⟩:=aN C D
  clear D C
  have c9:Ce W bs 9 (.string ⟨#[]⟩):=F.cell 9
  have ax:Ce W bs 10 (aB 0):=F.cell 10
  have aw:Ce W bs 11 (aB 0):=F.cell 11
  have Z:=F.fz
  unfold gH
  go_wp2_with fail
  first|go_end0|refine bodyPost_ret (results_none rfl _ _ _) rfl ?_
  rw[A.out]
  refine⟨((P.thrS 9 _).thrS 10 _).thrS 11 _,.inl ⟨n,((x.setO bs 9 _ h1 h2).setO bs 10 _ h1 h2).setO bs 11 _ h1 h2,rfl,bV,?_,?_⟩⟩
  ·have e:fH {d with op:=10,y:=G.here ts}={gF d with kind:=10,nt:=(G.here ts).text,na:=(G.here ts).at_,nn:=0}:=by simp[fH,gF,ta,fX,m.out.bin,m.out.field]
   rw[e];exact F.pnamed _ _ 0 0 rfl
  ·have e:cY {d with op:=10,y:=G.here ts}=[]:=by simp[cY]
   rw[e];exact World.ownsRow_nil _ _ _ _
 case neg=>
 have al:=aG a1
 have B:v.at ts [117,110,108,111,99,107]=false:=by rw[R.out _ (by decide)];exact decide_eq_false a1
 have an:=aG B
 clear a1 B
 refine(dx L ⟨#[117,110,108,111,99,107]⟩ an).mono ?_
 rintro e o ⟨rfl,hq⟩
 subst o
 go_wp2_with fail
 by_cases T:(v.here ts).text=[114,101,116,117,114,110]
 case pos=>
  have HE:=aG T
  have B:v.at ts [114,101,116,117,114,110]=true:=by rw[R.out _ (by decide)];exact decide_eq_true T
  obtain⟨Y,a5⟩:=aN B (V.at_open B)
  clear T B
  have A:Hid (dQ ts d v=(if(v.go1 ts).at ts [59]then({d with op:=12},v.go1 ts)else({d with op:=12,has:=true,y:=(v.go1 ts).here ts},(v.go1 ts).named ts true))):=by show _=_;unfold dQ;rw[HE.out];rfl
  refine(cK L ⟨#[114,101,116,117,114,110]⟩ Y).mono ?_
  rintro e S ⟨E,X⟩
  obtain⟨H,M⟩:=aN (l.trans E.thr2) (a3.kept E g)
  clear E
  rcases X with⟨D,C,rfl⟩|⟨D,b,rfl,C⟩
  case inr=>
   have J:Hid ((v.go1 ts).ok=false/\aM S b #[aB (v.go1 ts).e,aB (v.go1 ts).a]):=⟨D,C⟩
   clear D C
   go_wp2_with fail
   have e:(dQ ts d v).2=v.go1 ts:=by rw[A.out];split<;>simp[V.named_no J.out.1]
   rw[e]
   exact⟨rfl,H,.inr ⟨J.1,b,rfl,J.2⟩⟩
  case inl=>
  obtain⟨z,ai⟩:=aN C D
  clear D C
  clear c2 Z
  have c2:Ce S bs 2 (aB 0):=M.cell 2
  have Z:=M.fz
  generalize q:v.go1 ts=G at *
  clear q
  obtain⟨p,K⟩:=bM (S.setCell (Ad bs 2) (aB 12))
  have Q:Hid (RV p br bw s ts G dep):=by show RV _ _ _ _ _ _ _;rw[K];exact z.setO bs 2 _ h1 h2
  have c:Hid (aM p bs (bK {gF d with kind:=12} bV sb)):=by show aM _ _ _;rw[K];exact M.pkind 12 12 rfl
  have j:Hid (aC (gK br bw bs) w p):=by show aC _ _ _;rw[K];exact H.thrS 2 _
  replace K:=aG K
  go_wp2_with fail
  rw[<-K.out]
  clear K c2 Z
  cases a7:G.at ts [59]
  case true=>
   have a4:=aG a7
   clear a7
   refine(ug Q ⟨#[59]⟩).mono ?_
   rintro e o ⟨rfl,hq⟩
   subst o
   rw[show V.at ts G (ByteArray.mk #[59]).data.toList=true from a4.out]
   go_wp2_with fail
   first|go_end0|refine bodyPost_ret (results_none rfl _ _ _) rfl ?_
   have e:dQ ts d v=({d with op:=12},G):=by rw[A.out,if_pos a4.out]
   rw[e]
   refine⟨j,.inl ⟨Q.ok,Q,rfl,bV,?_,?_⟩⟩
   ·have e:fH {d with op:=12}={gF d with kind:=12}:=by simp[fH,gF,ta,fX,m.out.bin,m.out.field,m.out.f]
    rw[e];exact c
   ·have e:cY {d with op:=12}=[]:=by simp[cY,HH.out]
    rw[e];exact World.ownsRow_nil _ _ _ _
  case false=>
   have a4:=aG a7
   clear a7
   have ar:Hid (dQ ts d v=({d with op:=12,has:=true,y:=G.here ts},G.named ts true)):=by show _=_;rw[A.out,if_neg (by simp[a4.out])]
   refine(ug Q ⟨#[59]⟩).mono ?_
   rintro e o ⟨rfl,hq⟩
   subst o
   rw[show V.at ts G (ByteArray.mk #[59]).data.toList=false from a4.out]
   go_wp2_with fail
   refine(om Q).mono ?_
   rintro e W ⟨E,X⟩
   obtain⟨P,F⟩:=aN (j.trans E.thr2) (c.kept E g)
   clear E
   rcases X with⟨D,C,rfl⟩|⟨D,b,rfl,C⟩
   case inr=>
    have J:Hid ((G.named ts true).ok=false/\aM W b #[aB (G.named ts true).e,aB (G.named ts true).a]):=⟨D,C⟩
    clear D C
    go_wp2_with fail
    rw[ar.out]
    exact⟨rfl,P,.inr ⟨J.1,b,rfl,J.2⟩⟩
   case inl=>
   obtain⟨x,n⟩:=aN C D
   clear D C
   have av:Ce W bs 12 bV:=F.cell 12
   have Z:=F.fz
   have af:=P.size
   have au:=F.lt
   unfold gA
   go_wp2_with fail
   first|go_end0|refine bodyPost_ret (results_none rfl _ _ _) rfl ?_
   rw[ar.out]
   refine⟨(P.thrS 12 _).alloc _,.inl ⟨n,(x.setO bs 12 _ h1 h2).below (ba _ _),rfl,.slice (some (Ad W.heap.size 0)) 1 1,?_,?_⟩⟩
   ·have e:fH {d with op:=12,has:=true,y:=G.here ts}={gF d with kind:=12}:=by simp[fH,gF,ta,fX,m.out.bin,m.out.field,m.out.f]
    rw[e];exact(F.pright _).alloc _
   ·have e:cY {d with op:=12,has:=true,y:=G.here ts}=[G.here ts]:=by simp[cY]
    rw[e];exact jm W.heap.size (by simp[World.setCell]) _ _ rfl rfl af
 case neg=>
 have ag:=aG T
 have B:v.at ts [114,101,116,117,114,110]=false:=by rw[R.out _ (by decide)];exact decide_eq_false T
 have ah:=aG B
 clear T B
 refine(dx L ⟨#[114,101,116,117,114,110]⟩ ah).mono ?_
 rintro e o ⟨rfl,hq⟩
 subst o
 go_wp2_with fail
 have ae:v.bad ts false=true:=by unfold V.bad;simp[ay.out]
 obtain⟨ap,ad⟩:=aN (V.named_not L.ok ae) (V.flt_yes L.ok 5 (v.here ts).at_ (by decide))
 have A:Hid ((dQ ts d v).2=v.flt 5 (v.here ts).at_):=by
  show _=_
  have hb:(v.named ts false).ok=false:=by rw[ap.out];exact ad.1
  unfold dQ
  rw[if_neg a9.out,if_neg al.out,if_neg aa.out,if_neg ag.out,if_neg am.out,Hd.simple_bad d hb,ap.out]
 clear ae
 refine(oU L).mono ?_
 rintro e S ⟨⟨b,rfl,D⟩,C⟩
 replace D:=aG D
 replace C:=aG C
 go_wp2_with fail
 rw[A.out]
 exact⟨rfl,aC.of_below C,.inr ⟨ad.1,b,rfl,by rw[ad.out.2.1,ad.out.2.2];exact D⟩⟩
end
end
inductive eM where
 |mk (p:Ph) (r:List Pa) (bls:List (List eM))
def wL(t:bB):Pa:=⟨nv t,FG t,0,tQ t⟩
theorem Em(l:List bB):eF (l.map wL)=eh l:=by
 induction l with
 |nil=>rfl
 |cons a l ih=>simp only[eF,eh,List.map_cons,List.flatMap_cons]at ih⊢;rw[ih];rfl
def An{α:Type}(h:Hd)(b e:List α):List (List α):=if h.op=14 then[b]else if h.op=13 then(if h.has then[b,e]else[b])else[]
mutual
def mf:mD->eM
 |.mk h body et=>.mk (fH h) ((cY h).map wL) (An h (dY body) (dY et))
def dY:List mD->List eM
 |[]=>[]
 |s::l=>mf s::dY l
end
theorem uq(l:List mD)(s:mD):dY (l++[s])=dY l++[mf s]:=by
 induction l with
 |nil=>simp[dY]
 |cons a l ih=>simp[dY,ih]
structure Gv(P Q:Nat->Prop)(b:Nat)(sr sb:Value):Prop where
 q:∀i,Q i->P i/\i≠b/\sr.ownBlock≠some i/\sb.ownBlock≠some i
 rb:sr.ownBlock≠some b
 bb:sb.ownBlock≠some b
 rs:∀i,sr.ownBlock=some i->sb.ownBlock≠some i
mutual
inductive il(w:World):(Nat->Prop)->Nat->eM->Prop
 |mk {P Q:Nat->Prop} {b:Nat} {p:Ph} {sr sb:Value} {r:List Pa} {bls:List (List eM)} {vs:List Value}:P b->aM w b (bK p sr sb)->
   dL w P 258 4 sr r.length (eF r)->dL w P 104 1 sb bls.length vs->dM w Q vs bls->Gv P Q b sr sb->il w P b (.mk p r bls)
inductive cV(w:World):(Nat->Prop)->List Nat->List eM->Prop
 |nil {P:Nat->Prop}:cV w P [] []
 |cons {P Q R:Nat->Prop} {b:Nat} {s:eM} {bs:List Nat} {l:List eM}:il w Q b s->cV w R bs l->(∀i,Q i->P i/\¬R i)->(∀i,R i->P i)->cV w P (b::bs) (s::l)
inductive dM(w:World):(Nat->Prop)->List Value->List (List eM)->Prop
 |nil {P:Nat->Prop}:dM w P [] []
 |cons {P Q R:Nat->Prop} {v:Value} {bb:List Nat} {vs:List Value} {l:List eM} {ls:List (List eM)}:dL w P 167 1 v bb.length (fg bb)->cV w Q bb l->dM w R vs ls->
   (∀i,Q i->P i/\v.ownBlock≠some i/\¬R i)->(∀i,R i->P i/\v.ownBlock≠some i)->dM w P (v::vs) (l::ls)
end
theorem dL.keep{w':World}{P P' S:Nat->Prop}{size:Nat}{v:Value}{C:List Value}(k:aC S w w')(B:∀b,P b->b< w.heap.size/\¬S b/\P' b)(h:dL w P e size v n C):dL w' P' e size v n C:=
 h.move (fun b A=>⟨(B b A).2.2,k.block b (B b A).1 (B b A).2.1⟩)
abbrev Mf(S:Nat->Prop)(w:World)(P P':Nat->Prop):Prop:=∀b,P b->b< w.heap.size/\¬S b/\P' b
theorem Gv.mono{P P' Q:Nat->Prop}{sr sb:Value}(h:Gv P Q b sr sb)(B:∀i,P i->P' i):Gv P' Q b sr sb:=⟨fun i A=>⟨B i (h.q i A).1,(h.q i A).2⟩,h.rb,h.bb,h.rs⟩
theorem il.keep{w':World}{P P' S:Nat->Prop}(k:aC S w w')(B:∀b,P b->b< w.heap.size/\¬S b/\P' b){s:eM}(h:il w P b s):il w' P' b s:=by
 refine il.rec (motive_1:=fun P b s _=>∀P',Mf S w P P'->il w' P' b s) (motive_2:=fun P L l _=>∀P',Mf S w P P'->cV w' P' L l) (motive_3:=fun P vs K _=>∀P',Mf S w P P'->dM w' P' vs K) ?_ ?_ ?_ ?_ ?_ h P' B
 ·intro P Q b p sr sb r T vs hp N J O _ H M P' B
  exact il.mk (B b hp).2.2 (N.kept k (B b hp).2.1) (J.keep k B) (O.keep k B) (M Q (fun i A=>⟨(B i (H.q i A).1).1,(B i (H.q i A).1).2.1,A⟩)) (H.mono (fun i A=>(B i A).2.2))
 ·intro P P' _
  exact cV.nil
 ·intro P Q R b s L l _ _ C D G E P' B
  exact cV.cons (G Q (fun i A=>⟨(B i (C i A).1).1,(B i (C i A).1).2.1,A⟩)) (E R (fun i A=>⟨(B i (D i A)).1,(B i (D i A)).2.1,A⟩)) (fun i A=>⟨(B i (C i A).1).2.2,(C i A).2⟩) (fun i A=>(B i (D i A)).2.2)
 ·intro P P' _
  exact dM.nil
 ·intro P Q R v V vs l K J _ _ C D E F P' B
  exact dM.cons (J.keep k B) (E Q (fun i A=>⟨(B i (C i A).1).1,(B i (C i A).1).2.1,A⟩)) (F R (fun i A=>⟨(B i (D i A).1).1,(B i (D i A).1).2.1,A⟩)) (fun i A=>⟨(B i (C i A).1).2.2,(C i A).2⟩) (fun i A=>⟨(B i (D i A).1).2.2,(D i A).2⟩)
theorem cV.keep{w':World}{P P' S:Nat->Prop}(k:aC S w w')(B:∀b,P b->b< w.heap.size/\¬S b/\P' b){L:List Nat}{l:List eM}(h:cV w P L l):cV w' P' L l:=by
 induction L generalizing l P P' with
 |nil=>cases h;exact cV.nil
 |cons b L ih=>cases h with|cons h1 h2 hq hr=>exact cV.cons (h1.keep (P':=_) k (fun i A=>⟨(B i (hq i A).1).1,(B i (hq i A).1).2.1,A⟩)) (ih (fun i A=>⟨(B i (hr i A)).1,(B i (hr i A)).2.1,A⟩) h2) (fun i A=>⟨(B i (hq i A).1).2.2,(hq i A).2⟩) (fun i A=>(B i (hr i A)).2.2)
theorem dM.keep{w':World}{P P' S:Nat->Prop}(k:aC S w w')(B:∀b,P b->b< w.heap.size/\¬S b/\P' b){vs:List Value}{C:List (List eM)}(h:dM w P vs C):dM w' P' vs C:=by
 induction vs generalizing C P P' with
 |nil=>cases h;exact dM.nil
 |cons v vs ih=>cases h with|cons h1 h2 h3 hq hr=>exact dM.cons (h1.keep k B) (h2.keep (P':=_) k (fun i A=>⟨(B i (hq i A).1).1,(B i (hq i A).1).2.1,A⟩)) (ih (fun i A=>⟨(B i (hr i A).1).1,(B i (hr i A).1).2.1,A⟩) h3) (fun i A=>⟨(B i (hq i A).1).2.2,(hq i A).2⟩) (fun i A=>⟨(B i (hr i A).1).2.2,(hr i A).2⟩)
theorem cV.snoc{P P' Q:Nat->Prop}{L:List Nat}{l:List eM}{s:eM}(h:cV w P L l)(D:il w Q b s)(B:∀i,P i->P' i/\¬Q i)(C:∀i,Q i->P' i):cV w P' (L++[b]) (l++[s]):=by
 induction L generalizing l P P' with
 |nil=>cases h;exact cV.cons (R:=fun _=>False) D cV.nil (fun i A=>⟨C i A,fun e=>e⟩) (fun i A=>A.elim)
 |cons c L ih=>
  cases h with
  |@cons _ Q' R _ _ _ _ g1 g2 hq hr=>exact cV.cons (R:=fun i=>R i\/Q i) g1 (ih g2 (fun i A=>⟨.inl A,(B i (hr i A)).2⟩) (fun i A=>.inr A)) (fun i A=>⟨(B i (hq i A).1).1,fun e=>e.elim (hq i A).2 (B i (hq i A).1).2⟩) (fun i A=>A.elim (fun e=>(B i (hr i e)).1) (C i))
abbrev dZ(w w':World):Nat->Prop:=fun b=>w.heap.size<=b/\b< w'.heap.size
theorem uy{ts:List bB}{body:Nat->PV->List mD×PV}{pv:PV}(H:(pv.v.here ts).text≠[105,102])(G:(pv.v.here ts).text≠[119,104,105,108,101]):
  eS ts body d pv=(.mk (dQ ts (ow pv ts) pv.v).1 [] [],⟨(dQ ts (ow pv ts) pv.v).2.must ts [59],fY pv ts⟩):=by
 unfold eS dQ
 by_cases F:(pv.v.here ts).text=[108,111,99,107]
 ·simp[F]
 by_cases E:(pv.v.here ts).text=[117,110,108,111,99,107]
 ·simp[E]
 by_cases D:(pv.v.here ts).text=[106,111,105,110]
 ·simp[D]
 by_cases C:(pv.v.here ts).text=[114,101,116,117,114,110]
 ·simp only[C]
  by_cases B:(pv.v.go1 ts).at ts [59]=true
  ·simp[B]
  ·simp[B]
 by_cases A:(pv.v.here ts).text=[103,111]
 ·simp[A]
 ·simp[F,E,D,C,A,H,G]
theorem mL{ts:List bB}{body:Nat->PV->List mD×PV}{pv:PV}(h:(pv.v.here ts).text=[105,102]\/(pv.v.here ts).text=[119,104,105,108,101]):
  eS ts body d pv=jN ts body d (ow pv ts) ⟨pv.v,fY pv ts⟩:=by
 unfold eS
 rcases h with h|h<;>simp[h]
def yZ(ts:List bB)(f:Nat):Prop:=∀(w:World) (br bw:Nat) (s:ByteArray) (pv:PV) (d:Nat),RV w br bw s ts pv.v (d+1)->d<=5->Good pv->ts.length<=f+1+pv.v.i->
 Calls Tryz.prog 91 #[.pointer (some ⟨br,0,none⟩)] w fun r w'=>kq w w' br bw s ts (eS ts (aV ts f) d pv).2.v (d+1) r (fun r w'=>∃bs,r=.returned (aF bs)/\il w' (dZ w w') bs (mf (eS ts (aV ts f) d pv).1))
def lA(ts:List bB)(f:Nat):Prop:=∀(w:World) (br bw:Nat) (s:ByteArray) (pv:PV) (d:Nat),RV w br bw s ts pv.v d->d<=6->Good pv->ts.length<=f+pv.v.i->
 Calls Tryz.prog 62 #[.pointer (some ⟨br,0,none⟩)] w fun r w'=>kq w w' br bw s ts (cH ts (aV ts f) d pv).2.v d r (fun r w'=>∃u bb,r=.returned u/\dL w' (dZ w w') 167 1 u bb.length (fg bb)/\cV w' (fun b=>dZ w w' b/\u.ownBlock≠some b) bb (dY (cH ts (aV ts f) d pv).1))
theorem qs{ts:List bB}{pv:PV}{f:Nat}(h:(gn ts d pv.v).ok=false):(cH ts (aV ts f) d pv).2.v=gn ts d pv.v:=by
 unfold cH
 rw[nN (pv:=⟨gn ts d pv.v,pv.ats⟩) h]
 exact V.must_no h _
theorem ux{ts:List bB}{pv:PV}(h:pv.v.at ts [125]=true):aV ts g d pv=([],pv):=by
 cases g with
 |zero=>rfl
 |succ g=>rw[aV,if_pos (by simp[h])]
theorem zh{ts:List bB}{pv:PV}(h:pv.v.at ts [125]=false)(A:pv.v.ok=true):aV ts (g+1) d pv=((eS ts (aV ts g) d pv).1::(aV ts g d (eS ts (aV ts g) d pv).2).1,(aV ts g d (eS ts (aV ts g) d pv).2).2):=by
 rw[aV,if_neg (by simp[h,A])]
theorem RV.depth{a:Nat}{s:ByteArray}{ts:List bB}{v:V}(h:RV w a b s ts v d)(n:Nat)(z:Int)(e:z=n):RV (w.setCell ⟨a,4,none⟩ (.int .i64 z)) a b s ts v n:=by
 subst e
 exact⟨h.rb.set 4 _ (by simp),h.wb.setO a 4 _ (fun e=>h.ne e.symm),h.ne,h.ok,h.lt,h.x,h.tk,h.sz⟩
structure BT(w wr:World)(br bw:Nat)(s:ByteArray)(ts:List bB)(f g d:Nat)(R:List mD×PV)(l:Value)(acc:List mD)(bb:List Nat)(pv:PV):Prop where
 gf:g<=f
 own:wr.ownsRow w.heap.size 167 1 l bb.length (fg bb)
 rep:cV wr (fun b=>w.heap.size<=b/\b< wr.heap.size/\l.ownBlock≠some b) bb (dY acc)
 rv:RV wr br bw s ts pv.v (d+1)
 kp:aC (gO br bw) w wr
 good:Good pv
 fuel:ts.length<=g+pv.v.i
 few:bb.length<=pv.v.i
 eq:R=(acc++(aV ts g d pv).1,(aV ts g d pv).2)
theorem nA:(Tryz.prog.info? 167).map (fun i=>(i.zero,i.size,i.bytes))=some (some (.pointer none),1,8):=by kernel_rfl
theorem Ho{ts:List bB}{f:Nat}(hS:∀g,g< f->yZ ts g):lA ts f:=by
 intro w J bw s pv d h b2 hg hf
 obtain⟨i0,hi,af,ae,ad⟩:=info_parts nA
 obtain⟨HS,t,HT,HG⟩:=fK hS h h.tk hg
 have ag:=h.rb.lt
 have b4:=h.wb.lt
 have h7:ts.length<=701:=by have:=h.tk.len;rw[dt]at this;have:=h.sz;omega
 have c3:=h.rb.cell 3
 have ah:Ce w J (1+2) (aB (pv.v.here ts).at_):=h.rb.cell 3
 have c4:Ce w J 4 (aB d):=h.rb.cell 4
 have n:Hid (∀i,gO J bw i->i< w.heap.size):=fun i e=>by rcases e with e|e<;>omega
 have a9:Hid (gn ts d pv.v=(if pv.v.at ts [123]&&decide (6<=d)then pv.v.flt 6 (pv.v.here ts).at_ else pv.v).must ts [123]):=rfl
 clear hS h hg
 by_cases Y:pv.v.at ts [123]=true/\d=6
 ·obtain⟨C,rfl⟩:=Y
  obtain⟨au,m⟩:=aN C (V.flt_yes t.ok 6 (pv.v.here ts).at_ (by decide))
  have P:Hid (gn ts 6 pv.v=pv.v.flt 6 (pv.v.here ts).at_):=by show _=_;rw[a9.out,C];simp[V.must_no m.out.1]
  clear C
  go_in
  go_wp2_with fail
  refine(ug t ⟨#[123]⟩).mono ?_
  rintro e z ⟨rfl,hq⟩
  subst z
  rw[show V.at ts pv.v (ByteArray.mk #[123]).data.toList=true from au.out]
  go_wp2_with fail
  refine(cO 6 (pv.v.here ts).at_ w).mono ?_
  rintro e w1 ⟨⟨b,rfl,G⟩,D⟩
  replace G:=aG G
  replace D:=aG D
  go_wp2_with fail
  have e:=qs (f:=f) (pv:=pv) (d:=6) (ts:=ts) (by rw[P.out];exact m.1)
  rw[e,P.out]
  exact⟨rfl,aC.of_below D,.inr ⟨m.1,b,rfl,by rw[m.out.2.1,m.out.2.2];exact G⟩⟩
 ·have P:Hid (gn ts d pv.v=pv.v.must ts [123]):=by
   show _=_
   rw[a9.out]
   cases C:pv.v.at ts [123]
   ·rfl
   ·have:¬6<=d:=fun e=>Y ⟨C,by omega⟩
    simp[this]
  have ar:Hid (pv.v.at ts [123]=true->((d:Int)==6)=false):=fun e=>by rw[beq_eq_false_iff_ne];intro e2;exact Y ⟨e,by omega⟩
  have ap:=aG Y
  clear Y
  go_in
  go_wp2_with fail
  refine(ug t ⟨#[123]⟩).mono ?_
  rintro e z ⟨rfl,hq⟩
  subst z
  have a0:True:=trivial
  cases C:pv.v.at ts [123]
  case' false=>
   clear C
   go_wp2_with fail
  case' true=>
   have b5:=ar C
   clear C
   go_wp2_with fail
  all_goals
   clear a0 c3 ah c4
   refine(gV t ⟨#[123]⟩).mono ?_
   rintro e w1 ⟨a6,hx⟩
   have a8:=aG a6
   clear a6
   rcases hx with⟨G,D,rfl⟩|⟨G,b,rfl,D⟩
   case inr=>
    have c:Hid ((pv.v.must ts [123]).ok=false/\aM w1 b #[aB (pv.v.must ts [123]).e,aB (pv.v.must ts [123]).a]):=⟨G,D⟩
    clear G D
    go_wp2_with fail
    have e:=qs (f:=f) (pv:=pv) (d:=d) (ts:=ts) (by rw[P.out];exact c.1)
    rw[e,P.out]
    exact⟨rfl,a8,.inr ⟨c.1,b,rfl,c.2⟩⟩
   case inl=>
   have O:Hid (RV w1 J bw s ts (pv.v.must ts [123]) d):=D
   clear G D
   have aq:Hid (d<=5):=by
    show d<=5
    cases C:pv.v.at ts [123]
    ·have h1:=O.ok
     rw[V.must_not t.out.ok C,(V.flt_yes t.out.ok 5 _ (by decide)).1]at h1
     cases h1
    ·have:=ap.out
     have:d≠6:=fun e=>this ⟨C,e⟩
     omega
   have aa:=aG (dS.must [123] HT t.lt)
   have HR:Hid (cH ts (aV ts f) d pv=((aV ts f d ⟨pv.v.must ts [123],pv.ats⟩).1,⟨(aV ts f d ⟨pv.v.must ts [123],pv.ats⟩).2.v.must ts [125],(aV ts f d ⟨pv.v.must ts [123],pv.ats⟩).2.ats⟩)):=by show _=_;unfold cH;rw[P.out]
   have ao:Hid (Good ⟨pv.v.must ts [123],pv.ats⟩):=fun x=>by have:=HG t.ok;have:=(aa.ok x).2;show pv.ats.length<=(pv.v.must ts [123]).i;omega
   have hf1:ts.length<=f+(pv.v.must ts [123]).i:=by have:=(aa.ok O.ok).2;omega
   have c4:Ce w1 J 4 (aB d):=O.rb.cell 4
   have cf:=O.rb.fz
   have ax:=O.rb.lt
   have ai:=aG (O.depth (d+1) ((d:Int)+1) (by omega))
   have an:Hid (aC (gO J bw) w (w1.setCell (Ad J 4) (aB ((d:Int)+1)))):=a8.setCell (p:=Ad J 4) (.inl (.inl rfl)) _
   generalize hR:aV ts f d ⟨pv.v.must ts [123],pv.ats⟩=R at *
   replace hR:=aG hR
   generalize a4:pv.v.must ts [123]=vb at *
   replace a4:=aG a4
   go_wp2_with fail
   clear c4 cf
   go_loopg [3] f (fun g l wr=>∃K bb A,Hid (BT w wr J bw s ts f g d R l K bb A))
   case atStart=>exact⟨[],[],⟨vb,pv.ats⟩,Nat.le_refl _,World.ownsRow_nil _ _ _ _,by rw[dY];exact cV.nil,ai,an,ao,hf1,Nat.zero_le _,by rw[hR.out];simp⟩
   case round=>
    obtain⟨K,bb,A,E⟩:=hrel
    have HU:=aG E.rv
    have aw:=E.few
    have b0:=E.rv.lt
    cases r:A.v.at ts [125]
    ·have HC:=aG r
     have b1:=E.fuel
     obtain⟨N,rfl⟩:∃N,gk=N+1:=⟨gk-1,by omega⟩
     obtain⟨aj,o,a7⟩:=bY (HS N (by have:=E.gf;omega)) (E.eq.trans (by rw[zh r E.out.rv.ok])) (gB.stmt HT (gB.stmts HT N) d A E.good E.rv.lt)
     clear r
     go_wp2_with fail
     refine(ug HU ⟨#[125]⟩).mono ?_
     rintro e z ⟨rfl,hq⟩
     subst z
     rw[show V.at ts A.v (ByteArray.mk #[125]).data.toList=false from HC.out]
     go_wp2_with fail
     refine(aj wr J bw s A d HU aq E.good (by omega)).mono ?_
     rintro e M ⟨X,hx⟩
     have F:=aG X
     clear X
     rcases hx with⟨G,D,b3,rfl,h5⟩|⟨G,b,rfl,D⟩
     case inr=>
      have c:Hid ((eS ts (aV ts N) d A).2.v.ok=false/\aM M b #[aB (eS ts (aV ts N) d A).2.v.e,aB (eS ts (aV ts N) d A).2.v.a]):=⟨G,D⟩
      clear G D
      go_wp2_with fail
      have e:(cH ts (aV ts f) d pv).2.v=(eS ts (aV ts N) d A).2.v:=by
       rw[HR.out,o.out,nN c.out.1]
       exact V.must_no c.1 _
      rw[e]
      exact⟨rfl,E.kp.trans F,.inr ⟨c.1,b,rfl,c.2⟩⟩
     case inl=>
     have S:=dw E.own F n
     obtain⟨a1,a3,a2,y⟩:=fK D G h5 (E.kp.trans F)
     have ac:w.heap.size<=M.heap.size:=y.size
     have ab:w.heap.size<=wr.heap.size:=E.kp.size
     clear G D h5
     go_wp2_with (at_builtin;refine bE rfl _ _ 104 rfl w.heap.size 167 i0 (.pointer none) 1 8 Tryz.underlying104 hi af ae ad rfl (by decide) _ _ _ rfl (S.alloc _) (Ad M.heap.size 0) 1 1 [aF b3] rfl rfl (cF _ _ _ _ (by simp)) (by intro u hu;simp at hu;subst hu;rfl) (by decide) (by unfold maxLen;omega) (by omega) (by simp;omega) ?_;intro l4 w4 Q L q)
     have H:aC (fun k=>u3.ownBlock=some k) M w4:=((aC.refl _ M).alloc _).grown L (fun k hk=>.inl hk)
     have am:Hid (BT w w4 J bw s ts f N d R l4 (K++[(eS ts (aV ts N) d A).1]) (bb++[b3]) (eS ts (aV ts N) d A).2):=by
      have ay:=(a7.2.ok a3).2
      have W:∀k,u3.ownBlock=some k->w.heap.size<=k/\k< wr.heap.size:=fun k hk=>E.own.lt k hk
      have az:=H.size
      have av:=F.size
      have a5:∀b,b< M.heap.size->u3.ownBlock≠some b->l4.ownBlock≠some b:=fun b B hn e=>by
       rcases q with h|h
       ·rw[h]at e;exact hn e
       ·rw[h]at e;simp at e;omega
      refine⟨by have:=E.gf;omega,?_,?_,?_,?_,a7.1,by omega,by simp;omega,?_⟩
      ·rw[nP];simpa using Q
      ·rw[uq]
       have h1:cV M (fun b=>w.heap.size<=b/\b< wr.heap.size/\u3.ownBlock≠some b) bb (dY K):=E.rep.keep F (fun b B=>⟨B.2.1,fun e=>by have:=n b e;omega,B⟩)
       have h2:cV w4 (fun b=>w.heap.size<=b/\b< wr.heap.size/\u3.ownBlock≠some b) bb (dY K):=h1.keep H (fun b B=>⟨by omega,B.2.2,B⟩)
       have G:il w4 (dZ wr M) b3 (mf (eS ts (aV ts N) d A).1):=a2.keep H (fun b B=>⟨B.2,fun e=>by have:=(W b e).2;have:=B.1;omega,B⟩)
       exact h2.snoc G (fun b B=>⟨⟨B.1,by omega,a5 b (by omega) B.2.2⟩,fun e=>by have:=e.1;omega⟩) (fun b B=>⟨by have:=B.1;omega,by have:=B.2;omega,a5 b B.2 (fun e=>by have:=(W b e).2;have:=B.1;omega)⟩)
      ·exact a1.kept H (fun e=>by have:=(W _ e).1;omega) (fun e=>by have:=(W _ e).1;omega)
      ·exact y.trans' H (fun i e=>.inr (W i e).1)
      ·rw[o.out];simp
     clear H L q Q S
     go_wp2_with fail
     go_roundg N
     case measure=>omega
     case rel=>exact⟨_,_,_,am⟩
    ·have HC:=aG r
     obtain⟨o,ak,al⟩:=bY (E.eq.trans (by rw[ux r])) (V.at_open r) (V.must_yes r)
     clear r
     go_wp2_with fail
     refine(ug HU ⟨#[125]⟩).mono ?_
     rintro e z ⟨rfl,hq⟩
     subst z
     rw[show V.at ts A.v (ByteArray.mk #[125]).data.toList=true from HC.out]
     go_wp2_with fail
     refine(rL HU ak).mono ?_
     rintro e M ⟨X,hx⟩
     have F:=aG X
     clear X
     have j:Hid ((cH ts (aV ts f) d pv).2.v=A.v.go1 ts/\(cH ts (aV ts f) d pv).1=K):=by
      rw[HR.out,o.out]
      exact⟨al,by simp⟩
     rcases hx with⟨G,D,rfl⟩|⟨G,b,rfl,D⟩
     case inr=>
      have c:Hid ((A.v.go1 ts).ok=false/\aM M b #[aB (A.v.go1 ts).e,aB (A.v.go1 ts).a]):=⟨G,D⟩
      clear G D
      go_wp2_with fail
      rw[j.out.1]
      exact⟨rfl,E.kp.trans F,.inr ⟨c.1,b,rfl,c.2⟩⟩
     case inl=>
     obtain⟨a1,a3⟩:=aN D G
     have c4:Ce M J 4 (aB (d+1:Nat)):=D.rb.cell 4
     have cf:=D.rb.fz
     have Z:((d+1:Nat):Int)=(d:Int)+1:=by omega
     rw[Z]at c4
     clear G D Z
     go_wp2_with fail
     go_ret
     have H:=(aC.refl (aK J) M).set1 4 (aB (d:Int))
     have ac:=F.size
     have ab:=E.kp.size
     rw[j.out.1,j.out.2]
     refine⟨(E.kp.trans F).setCell (p:=Ad J 4) (.inl (.inl rfl)) _,.inl ⟨a3,a1.depth d _ rfl,_,bb,rfl,?_,?_⟩⟩
     ·have T:=bZ (dw E.own F n) 4 (aB (d:Int)) ag
      exact⟨cU T (Nat.zero_le _),fun k hk=>⟨(T.lt k hk).1,(T.lt k hk).2⟩⟩
     ·have h1:cV M (fun b=>w.heap.size<=b/\b< wr.heap.size/\u3.ownBlock≠some b) bb (dY K):=E.rep.keep F (fun b B=>⟨B.2.1,fun e=>by have:=n b e;omega,B⟩)
      exact h1.keep H (fun b B=>⟨by have:=B.2.1;omega,fun e=>by have:b=J:=e;have:=B.1;omega,⟨B.1,by have:=B.2.1;simp[World.setCell];omega⟩,B.2.2⟩)
end Go.Proofs.YtajfbbldaiaolaaGreatDoor
