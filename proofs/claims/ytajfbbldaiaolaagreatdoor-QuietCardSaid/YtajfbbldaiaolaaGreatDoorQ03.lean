import Derived.Defers
import Derived.Recover
import Derived.Maps.OwnSet
import Derived.Deep.Cut
import Derived.Test.YtajfbbldaiaolaaGreatDoorQ02
set_option linter.unusedSimpArgs false
set_option linter.unusedVariables false
set_option maxRecDepth 100000
set_option maxHeartbeats 4000000
namespace Go.Proofs.YtajfbbldaiaolaaGreatDoor
open Go.RowKit Go.Maps
variable {L l:List Nat}{a b c d f j m n o:Nat}{u w:World}{v:Value}
section
theorem nB:(Tryz.prog.info? 104).map (fun i=>(i.zero,i.size,i.bytes))=some (some (.slice none 0 0),1,24):=by kernel_rfl
theorem bJ{w':World}{S:Nat->Prop}{B e size:Nat}{D:List Value}(h:w.ownsRow B e size v n D)(k:aC S w w')(G:∀i,v.ownBlock=some i->¬S i):w'.ownsRow B e size v n D:=by
 refine⟨h.1,?_⟩
 rcases h.2 with E|⟨g,cap,C,A,hg,F,r⟩
 ·exact .inl E
 ·exact .inr ⟨g,cap,C,A,hg,by rw[k.block g (h.lt g (by rw[A];rfl)).2 (G g (by rw[A];rfl))];exact F,r⟩
theorem mU{g k:Nat}(h:v.ownBlock=Value.ownBlock bV\/v.ownBlock=some g)(A:v.ownBlock=some k):g=k:=by
 rcases h with h|h
 ·rw[h]at A;cases A
 ·rw[h]at A;exact Option.some.inj A
def rY(ts:List bB)(f dep:Nat)(v:V)(ats:List Nat):List mD×PV:=cH ts (aV ts f) dep ⟨v.named ts true,ats⟩
def KG(ts:List bB)(f dep:Nat)(v:V)(ats:List Nat):List mD×PV:=cH ts (aV ts f) dep ⟨(rY ts f dep v ats).2.v.go1 ts,(rY ts f dep v ats).2.ats⟩
def Dv(ts:List bB)(f dep:Nat)(v:V)(ats:List Nat):V:=if(rY ts f dep v ats).2.v.at ts [101,108,115,101]then(KG ts f dep v ats).2.v else(rY ts f dep v ats).2.v
def IK(ts:List bB)(f dep:Nat)(v:V)(ats:List Nat):List (List mD):=if(rY ts f dep v ats).2.v.at ts [101,108,115,101]then[(rY ts f dep v ats).1,(KG ts f dep v ats).1]else[(rY ts f dep v ats).1]
theorem tM{ts:List bB}{v:V}(h:(rY ts f a v l).2.v.ok=false):Dv ts f a v l=(rY ts f a v l).2.v:=by
 unfold Dv KG
 split
 ·rw[fL (pv:=⟨(rY ts f a v l).2.v.go1 ts,(rY ts f a v l).2.ats⟩) (by simpa only[V.go1_no h]using h)]
  exact V.go1_no h
 ·rfl
structure BR(w w2 w3 wX:World)(br bw bs:Nat)(s:ByteArray)(ts:List bB)(dep:Nat)(d:Hd)(t:bB)(B:List mD×PV)(p3:Option Addr)(c3:Nat)(pu:Option Addr)(cu:Nat)(bb:List Nat)(sr:Value):Prop where
 ok:B.2.v.ok=true
 st:aM w3 bs (bK {gF d with kind:=13} sr bV)
 rv:RV w3 br bw s ts B.2.v dep
 kp:aC (gK br bw bs) w w3
 oa:w3.ownsRow w.heap.size 258 4 sr 1 (eh [t])
 ob:w3.ownsRow w.heap.size 104 1 (.slice p3 1 c3) 1 [.slice pu bb.length cu]
 k3:aC (fun _=>False) w2 w3
 pb:∀k,Value.ownBlock (.slice p3 1 c3)=some k->w2.heap.size<=k
 wx:wX.heap.size<=w2.heap.size
 row:dL w2 (dZ wX w2) 167 1 (.slice pu bb.length cu) bb.length (fg bb)
 rep:cV w2 (fun b=>dZ wX w2 b/\Value.ownBlock (.slice pu bb.length cu)≠some b) bb (dY B.1)
 sx:∃g,sr=.slice (some ⟨g,0,none⟩) 1 1/\w.heap.size<=g/\g< wX.heap.size
theorem BR.one{v W:World}{s:ByteArray}{ts:List bB}{d:Hd}{t:bB}{B:List mD×PV}{C:Option Addr}{N:Option Addr}{sr y:Value}(h:BR w v u (((W.setCell ⟨f,12,none⟩ y).alloc (fF t)).drew) a c f s ts j d t B C m N n l sr)(M:f≠a)(L:f≠c)(H:f< w.heap.size)(Q:w.heap.size<=W.heap.size):
  il (u.setCell ⟨f,13,none⟩ (.slice C 1 m)) (Own w (u.setCell ⟨f,13,none⟩ (.slice C 1 m)) f) f (.mk {gF d with kind:=13} [wL t] ([B.1].map dY)):=by
 have D:aC (aK f) v (u.setCell ⟨f,13,none⟩ (.slice C 1 m)):=(h.k3.mono (fun _ e=>e.elim)).set1 13 _
 have O:=D.size
 have E:∀b,dZ (((W.setCell ⟨f,12,none⟩ y).alloc (fF t)).drew) v b->b< v.heap.size/\¬aK f b/\Own w (u.setCell ⟨f,13,none⟩ (.slice C 1 m)) f b:=fun b A=>by
  have M:=A.1
  have L:=A.2
  simp[World.setCell]at M
  exact⟨L,fun e=>by have:b=f:=e;omega,.inr ⟨by omega,by omega⟩⟩
 have G:=bZ h.oa 13 (.slice C 1 m) H
 have F:=bZ h.ob 13 (.slice C 1 m) H
 obtain⟨g,rfl,X,V⟩:=h.sx
 have T:∀b,dZ (((W.setCell ⟨f,12,none⟩ y).alloc (fF t)).drew) v b->Own w (u.setCell ⟨f,13,none⟩ (.slice C 1 m)) f b/\b≠f/\Value.ownBlock (.slice (some ⟨g,0,none⟩) 1 1)≠some b/\Value.ownBlock (.slice C 1 m)≠some b:=fun b A=>
  ⟨(E b A).2.2,(E b A).2.1,fun e=>by have:=mz e;have:=A.1;omega,fun e=>by have:=h.pb b e;have:=A.2;omega⟩
 have S:=h.wx
 exact il.mk (.inl rfl) (h.st.pblocks _) ⟨cU G (Nat.zero_le _),fun k J=>.inr (G.lt k J)⟩ ⟨cU F (Nat.zero_le _),fun k J=>.inr (F.lt k J)⟩
  (dM.cons (P:=dZ (((W.setCell ⟨f,12,none⟩ y).alloc (fF t)).drew) v) (R:=fun _=>False) (h.row.keep D (fun b A=>⟨(E b A).1,(E b A).2.1,A⟩)) (h.rep.keep D (fun b A=>⟨(E b A.1).1,(E b A.1).2.1,A⟩)) dM.nil (fun i K=>⟨K.1,K.2,fun e=>e⟩) (fun _ e=>e.elim))
  ⟨T,fun e=>by have:=mz e;omega,fun e=>by have:=h.pb _ e;omega,fun i Z Y=>by have:=mz Z;have:=h.pb _ Y;omega⟩
section
variable {w:World} {br bw bs:Nat} {s:ByteArray} {ts:List bB} {v:V} {dep:Nat}
theorem JX(hB:lA ts f)(h:RV w br bw s ts v dep)(aa:dep<=6)(E:List Nat)(hg:Good ⟨v,E⟩)(hf:ts.length<=f+v.i)(d:Hd)(hd:yq d)(hx:d.x=⟨0,[],0,0⟩)(t:aM w bs (bK (gF d) bV bV))(h1:bs≠br)(z:bs≠bw):
  Calls Tryz.prog 128 #[Pt br 0,Pt bs 0] w fun r w'=>tY (gK br bw bs) w w' br bw s ts (cH ts (aV ts f) dep ⟨v.named ts true,E⟩).2.v dep r (fun r w'=>r=.returned (.tuple #[])/\il w' (Own w w' bs) bs (.mk {gF d with kind:=14} [wL (v.here ts)] [dY (cH ts (aV ts f) dep ⟨v.named ts true,E⟩).1])):=by
 obtain⟨i0,hi,a8,n,a6⟩:=info_parts nB
 have am:=aG hB
 have q:=t.lt
 have aw:=h.rb.lt
 have av:=h.wb.lt
 have a3:Hid (¬gO br bw bs):=fun e=>by rcases e with e|e<;>contradiction
 have ad:Hid (∀i,gO br bw i->i< w.heap.size):=fun i e=>by rcases e with e|e<;>omega
 obtain⟨N,af,HG,ak,ai,HD⟩:=vp h t hg hf (aC.refl (gK br bw bs) w) hd
 have c2:Ce w bs 2 (aB 0):=t.cell 2
 have cf:=t.fz
 clear h t hd hB hx hg hf
 go_in
 go_wp2_with fail
 refine(om (N.setO bs 2 (aB 14) h1 z)).mono ?_
 rintro e F ⟨B,hx⟩
 have g:Hid (aC (gK br bw bs) w F):=(ai.thrS 2 (aB 14)).trans B.thr2
 have L:=aG ((af.pkind 14 14 rfl).kept B a3)
 clear B c2 cf
 rcases hx with⟨h3,y,rfl⟩|⟨h3,b,rfl,y⟩
 case inr=>
  have HO:Hid ((v.named ts true).ok=false/\aM F b #[aB (v.named ts true).e,aB (v.named ts true).a]):=⟨h3,y⟩
  clear h3 y
  go_wp2_with fail
  have e:(cH ts (aV ts f) dep ⟨v.named ts true,E⟩).2.v=v.named ts true:=fL (pv:=⟨v.named ts true,E⟩) HO.1 f dep
  rw[e]
  exact⟨rfl,g,.inr ⟨HO.1,b,rfl,HO.2⟩⟩
 case inl=>
 have a0:=aG y
 clear h3 y
 have V:=aG (dS.named (ts:=ts) true N.tk N.lt)
 have aj:Hid (Good ⟨v.named ts true,E⟩):=fun x=>by have:=HG N.ok;have:=(V.ok x).2;show E.length<=(v.named ts true).i;simp only at *;omega
 have al:Hid (ts.length<=f+(v.named ts true).i):=by show _<=_;have:=(V.ok a0.ok).2;have:=ak.out;omega
 have a7:=g.size
 have au:=L.lt
 have b0:Ce F bs 12 bV:=L.cell 12
 have az:Ce F bs 13 bV:=L.cell 13
 have cf:=L.fz
 obtain⟨ae,ab,a4⟩:=bY (((L.pright (.slice (some (Ad F.heap.size 0)) 1 1)).alloc (fF (v.here ts))).below ((Below.refl _ _).drew)) (((a0.setO bs 12 (.slice (some (Ad F.heap.size 0)) 1 1) h1 z).below (ba _ (fF (v.here ts)))).below ((Below.refl _ _).drew)) (((g.thrS 12 (.slice (some (Ad F.heap.size 0)) 1 1)).alloc (fF (v.here ts))).drew)
 have ag:Hid (((F.setCell (Ad bs 12) (.slice (some (Ad F.heap.size 0)) 1 1)).alloc (fF (v.here ts))).drew.ownsRow w.heap.size 258 4 (.slice (some (Ad F.heap.size 0)) 1 1) 1 (eh [v.here ts])):=gS (jm F.heap.size (by simp[World.setCell]) _ _ rfl rfl a7)
 generalize W:v.named ts true=u at *
 replace W:=aG W
 unfold gA
 go_wp2_with fail
 go_region_law (first|(refine iB rfl ?_;go_wp2_with fail;refine(am _ br bw s ⟨u,E⟩ dep ab aa aj al).mono ?_;rintro e M hO;cases A:(cH ts (aV ts f) dep ⟨u,E⟩).2.v.ok;(focus(obtain⟨B,b,rfl,D⟩:=hO.bad A;replace B:=aG B;replace D:=aG D;replace A:=aG A;clear hO;go_wp2_with fail;rw[W.out];exact⟨rfl,a4.trans B.thr2,.inr ⟨A,b,rfl,D⟩⟩));(obtain⟨B,X,ub,bb,rfl,H,K⟩:=hO.good A;have a2:=aG (dw ag B ad);have O:=aG (ae.kept B a3);have ap:Ce M bs 13 bV:=O.cell 13;have ay:=O.fz;have an:=O.lt;have m:=B.size;have a5:=aG (a4.trans B.thr2);obtain⟨pu,cu,rfl⟩:=aI H.1;replace X:=aG X;replace H:=aG H;replace K:=aG K;replace A:=aG A;clear hO B))|(refine bD rfl (.tmp 17) (.tmp 20) 217 rfl w.heap.size 104 i0 bV 1 24 Tryz.underlying217 hi a8 n a6 rfl (by decide) _ _ _ (by simp[Act.eval,Act.put]) (World.ownsRow_nil _ _ _ _) (Ad M.heap.size 0) 1 1 [.slice pu bb.length cu] (by simp[Act.eval,Act.put]) rfl (cF _ _ _ _ (by simp)) (by intro u W;simp at W;subst W;rfl) (by decide) (by unfold maxLen;omega) (by omega) (by have:=a5.size;simp;omega) ?_;intro l3 j C J S;obtain⟨Q,T,rfl⟩:=aI C;have c:Hid (∀k,Value.ownBlock (.slice Q 1 T)=some k->M.heap.size<=k):=(fun k B=>by have h:=mU S B;simp at h;omega);have G:=aC.grown ((aC.refl (fun _=>False) M).alloc (.cells #[.slice pu bb.length cu] 104)) J (fun k B=>by simp[Value.ownBlock]at B);have Z:=aG (O.kept G (fun e=>e));have ac:=aG (X.kept G (fun e=>e) (fun e=>e));have ah:=aG (a5.trans' G (fun i e=>e.elim));have a1:=aG (dw a2 G (fun i e=>e.elim));have ao:Ce j bs 13 bV:=Z.cell 13;have ax:=Z.fz;replace G:=aG G;replace C:=aG C;clear J S))
 all_goals
  go_wp2_with fail
  first|go_end0|refine bodyPost_ret (results_none rfl _ _ _) rfl ?_
  rw[W.out]
  have Y:aC (aK bs) M (j.setCell (Ad bs 13) (.slice Q 1 T)):=(G.mono (fun _ e=>e.elim)).set1 13 _
  have aq:=Y.size
  have ar:(j.setCell (Ad bs 13) (.slice Q 1 T)).heap.size=j.heap.size:=by simp[World.setCell]
  have l:∀b,dZ (((F.setCell (Ad bs 12) (.slice (some (Ad F.heap.size 0)) 1 1)).alloc (fF (v.here ts))).drew) M b->b< M.heap.size/\¬aK bs b/\Own w (j.setCell (Ad bs 13) (.slice Q 1 T)) bs b:=fun b D=>by
   have h1:=D.1
   have z:=D.2
   simp[World.setCell]at h1
   exact⟨z,fun e=>by have:b=bs:=e;omega,.inr ⟨by omega,by omega⟩⟩
  have p:=bZ a1 13 (.slice Q 1 T) q
  have o:=bZ C 13 (.slice Q 1 T) q
  have a9:=m
  simp[World.setCell]at a9
  have hq:∀b,dZ (((F.setCell (Ad bs 12) (.slice (some (Ad F.heap.size 0)) 1 1)).alloc (fF (v.here ts))).drew) M b->Own w (j.setCell (Ad bs 13) (.slice Q 1 T)) bs b/\b≠bs/\Value.ownBlock (.slice (some (Ad F.heap.size 0)) 1 1)≠some b/\Value.ownBlock (.slice Q 1 T)≠some b:=fun b D=>
   ⟨(l b D).2.2,(l b D).2.1,fun e=>by have:=mz e;have h9:=D.1;simp[World.setCell]at h9;omega,fun e=>by have:=c b e;have:=D.2;omega⟩
  exact⟨ah.thrS 13 _,.inl ⟨A,ac.setO bs 13 _ h1 z,rfl,il.mk (.inl rfl) (Z.pblocks _) ⟨cU p (Nat.zero_le _),fun k B=>.inr (p.lt k B)⟩ ⟨cU o (Nat.zero_le _),fun k B=>.inr (o.lt k B)⟩ (dM.cons (P:=dZ (((F.setCell (Ad bs 12) (.slice (some (Ad F.heap.size 0)) 1 1)).alloc (fF (v.here ts))).drew) M) (R:=fun _=>False) (H.keep Y (fun b D=>⟨(l b D).1,(l b D).2.1,D⟩)) (K.keep Y (fun b D=>⟨(l b D.1).1,(l b D.1).2.1,D⟩)) dM.nil (fun i hi=>⟨hi.1,hi.2,fun e=>e⟩) (fun _ e=>e.elim)) ⟨hq,fun e=>by have:=mz e;omega,fun e=>by have:=c _ e;omega,fun i e1 e2=>by have:=mz e1;have:=c _ e2;omega⟩⟩⟩
theorem Ew(hB:lA ts f)(h:RV w br bw s ts v dep)(b3:dep<=6)(C:List Nat)(hg:Good ⟨v,C⟩)(hf:ts.length<=f+v.i)(d:Hd)(hd:yq d)(hx:d.x=⟨0,[],0,0⟩)(hS:aM w bs (bK (gF d) bV bV))(h1:bs≠br)(h2:bs≠bw):
  Calls Tryz.prog 127 #[Pt br 0,Pt bs 0] w fun r w'=>tY (gK br bw bs) w w' br bw s ts (Dv ts f dep v C) dep r (fun r w'=>r=.returned (.tuple #[])/\il w' (Own w w' bs) bs (.mk {gF d with kind:=13} [wL (v.here ts)] ((IK ts f dep v C).map dY))):=by
 obtain⟨i0,t,ay,ab,ax⟩:=info_parts nB
 have c0:=aG hB
 have z:=hS.lt
 have d2:=h.rb.lt
 have d1:=h.wb.lt
 have aa:Hid (¬gO br bw bs):=fun e=>by rcases e with e|e<;>contradiction
 have n:Hid (∀i,gO br bw i->i< w.heap.size):=fun i e=>by rcases e with e|e<;>omega
 obtain⟨m,ck,HG,cq,co,HD⟩:=vp h hS hg hf (aC.refl (gK br bw bs) w) hd
 have c2:Ce w bs 2 (aB 0):=hS.cell 2
 have cf:=hS.fz
 clear h hS hd hB hx hg hf
 go_in
 go_wp2_with fail
 refine(om (m.setO bs 2 (aB 13) h1 h2)).mono ?_
 rintro e H ⟨A,hx⟩
 have au:Hid (aC (gK br bw bs) w H):=(co.thrS 2 (aB 13)).trans A.thr2
 have a1:=aG ((ck.pkind 13 13 rfl).kept A aa)
 clear A c2 cf
 rcases hx with⟨h3,h4,rfl⟩|⟨h3,b,rfl,h4⟩
 case inr=>
  have HO:Hid ((v.named ts true).ok=false/\aM H b #[aB (v.named ts true).e,aB (v.named ts true).a]):=⟨h3,h4⟩
  clear h3 h4
  go_wp2_with fail
  have e:(cH ts (aV ts f) dep ⟨v.named ts true,C⟩).2.v=v.named ts true:=fL (pv:=⟨v.named ts true,C⟩) HO.1 f dep
  rw[tM (by unfold rY;rw[e];exact HO.out.1)];unfold rY;rw[e]
  exact⟨rfl,au,.inr ⟨HO.1,b,rfl,HO.2⟩⟩
 case inl=>
 have an:=aG h4
 clear h3 h4
 have ah:=aG (dS.named (ts:=ts) true m.tk m.lt)
 have bx:Hid (Good ⟨v.named ts true,C⟩):=fun x=>by have:=HG m.ok;have:=(ah.ok x).2;show C.length<=(v.named ts true).i;simp only at *;omega
 have bz:Hid (ts.length<=f+(v.named ts true).i):=by show _<=_;have:=(ah.ok an.ok).2;have:=cq.out;omega
 have ai:=au.size
 have d0:=a1.lt
 have ce:Ce H bs 12 bV:=a1.cell 12
 have b8:Ce H bs 13 bV:=a1.cell 13
 have cf:=a1.fz
 obtain⟨a5,a4,q⟩:=bY (((a1.pright (.slice (some (Ad H.heap.size 0)) 1 1)).alloc (fF (v.here ts))).below ((Below.refl _ _).drew)) (((an.setO bs 12 (.slice (some (Ad H.heap.size 0)) 1 1) h1 h2).below (ba _ (fF (v.here ts)))).below ((Below.refl _ _).drew)) (((au.thrS 12 (.slice (some (Ad H.heap.size 0)) 1 1)).alloc (fF (v.here ts))).drew)
 have a9:Hid (((H.setCell (Ad bs 12) (.slice (some (Ad H.heap.size 0)) 1 1)).alloc (fF (v.here ts))).drew.ownsRow w.heap.size 258 4 (.slice (some (Ad H.heap.size 0)) 1 1) 1 (eh [v.here ts])):=gS (jm H.heap.size (by simp[World.setCell]) _ _ rfl rfl ai)
 generalize y:v.named ts true=u at *
 replace y:=aG y
 unfold gA
 go_upto_region 2 with fail
 go_cut []from 5 (fun wx=>∃S w3 J K pu cu bb,wx=w3.setCell (Ad bs 13) (.slice J 1 K)/\Hid (BR w S w3 (((H.setCell (Ad bs 12) (.slice (some (Ad H.heap.size 0)) 1 1)).alloc (fF (v.here ts))).drew) br bw bs s ts dep d (v.here ts) (cH ts (aV ts f) dep ⟨u,C⟩) J K pu cu bb (.slice (some (Ad H.heap.size 0)) 1 1)))
 case first=>
  go_region_law (first|(refine iB rfl ?_;go_wp2_with fail;refine(c0 _ br bw s ⟨u,C⟩ dep a4 b3 bx bz).mono ?_;rintro e S hO;cases F:(cH ts (aV ts f) dep ⟨u,C⟩).2.v.ok;(focus(obtain⟨A,b,rfl,B⟩:=hO.bad F;replace A:=aG A;replace B:=aG B;replace F:=aG F;clear hO;go_wp2_with fail;rw[tM (by unfold rY;rw[y.out];exact F.out)];unfold rY;rw[y.out];exact⟨rfl,q.trans A.thr2,.inr ⟨F,b,rfl,B⟩⟩));(obtain⟨A,W,ub,bb,rfl,E,L⟩:=hO.good F;have bo:=aG (dw a9 A n);have a7:=aG (a5.kept A aa);have b7:Ce S bs 13 bV:=a7.cell 13;have cd:=a7.fz;have cw:=a7.lt;have aw:=A.size;have bv:=aG (q.trans A.thr2);obtain⟨pu,cu,rfl⟩:=aI E.1;replace W:=aG W;replace E:=aG E;replace L:=aG L;replace F:=aG F;clear hO A))|(refine bD rfl (.tmp 17) (.tmp 20) 217 rfl w.heap.size 104 i0 bV 1 24 Tryz.underlying217 t ay ab ax rfl (by decide) _ _ _ (by simp[Act.eval,Act.put]) (World.ownsRow_nil _ _ _ _) (Ad S.heap.size 0) 1 1 [.slice pu bb.length cu] (by simp[Act.eval,Act.put]) rfl (cF _ _ _ _ (by simp)) (by intro u y;simp at y;subst y;rfl) (by decide) (by unfold maxLen;omega) (by omega) (by have:=bv.size;simp;omega) ?_;intro l3 w3 O j ad;obtain⟨J,K,rfl⟩:=aI O;have Y:Hid (∀k,Value.ownBlock (.slice J 1 K)=some k->S.heap.size<=k):=(fun k A=>by have h:=mU ad A;simp at h;omega);have X:=aC.grown ((aC.refl (fun _=>False) S).alloc (.cells #[.slice pu bb.length cu] 104)) j (fun k A=>by simp[Value.ownBlock]at A);have aq:=aG (a7.kept X (fun e=>e));have ci:=aG (W.kept X (fun e=>e) (fun e=>e));have cn:=aG (bv.trans' X (fun i e=>e.elim));have bn:=aG (dw bo X (fun i e=>e.elim));have b6:Ce w3 bs 13 bV:=aq.cell 13;have cc:=aq.fz;replace X:=aG X;replace O:=aG O;clear j ad))
  all_goals
  go_wp2_with fail
  go_meet
  exact⟨S,w3,J,K,pu,cu,bb,rfl,F,aq,ci,cn,bn,O,X,Y,aw,E,L,H.heap.size,rfl,ai,by simp[World.setCell]⟩
 case rest=>
 obtain⟨S,w3,J,K,pu,cu,bb,c5,D⟩:=hcut
 clear ce b8 cf a5 a4 q a9
 have HB:Hid (rY ts f dep v C=cH ts (aV ts f) dep ⟨u,C⟩):=by show _=_;unfold rY;rw[y.out]
 have be:=aG (gB.block m.tk (gB.stmts m.tk f) dep ⟨u,C⟩ bx an.lt)
 have d3:Hid ((cH ts (aV ts f) dep ⟨u,C⟩).2.v.i< ts.length):=D.rv.lt
 generalize b4:cH ts (aV ts f) dep ⟨u,C⟩=M at *
 replace b4:=aG b4
 subst c5
 have am:=aG (D.rv.setO bs 13 (.slice J 1 K) h1 h2)
 have c9:=D.st.lt
 cases a3:M.2.v.at ts [101,108,115,101]
 ·have a2:=aG a3
  clear a3
  have Z:Hid (Dv ts f dep v C=M.2.v/\IK ts f dep v C=[M.1]):=by show _/\_;unfold Dv IK;rw[HB.out,a2.out];exact⟨rfl,rfl⟩
  go_wp2_with fail
  refine(dx am ⟨#[101,108,115,101]⟩ a2).mono ?_
  rintro e wq ⟨rfl,hq⟩
  subst wq
  go_wp2_with fail
  first|go_end0|refine bodyPost_ret (results_none rfl _ _ _) rfl ?_
  rw[Z.out.1,Z.out.2]
  exact⟨D.kp.thrS 13 _,.inl ⟨D.ok,am,rfl,D.one h1 h2 z ai⟩⟩
 ·have a2:=aG a3
  clear a3
  have Z:Hid (Dv ts f dep v C=(cH ts (aV ts f) dep ⟨M.2.v.go1 ts,M.2.ats⟩).2.v/\IK ts f dep v C=[M.1,(cH ts (aV ts f) dep ⟨M.2.v.go1 ts,M.2.ats⟩).1]):=by show _/\_;unfold Dv IK KG;rw[HB.out,a2.out];exact⟨rfl,rfl⟩
  obtain⟨cj,bm,bi,cm⟩:=fK (D.st.pblocks (.slice J 1 K)) (bZ D.oa 13 (.slice J 1 K) z) (bZ D.ob 13 (.slice J 1 K) z) (D.kp.thrS 13 (.slice J 1 K))
  have bt:Hid (aC (fun k=>gK br bw bs k\/Value.ownBlock (.slice J 1 K)=some k) S (w3.setCell (Ad bs 13) (.slice J 1 K))):=(D.k3.mono (fun _ e=>e.elim)).setCell (p:=Ad bs 13) (.inl (.inl (.inr rfl))) _
  obtain⟨Y,ae,bd,bf,af⟩:=ma D.pb D.row D.wx D.rep D.ok
  clear D
  generalize c6:w3.setCell (Ad bs 13) (.slice J 1 K)=w4 at *
  clear c6 c9
  go_wp2_with fail
  refine(cK am ⟨#[101,108,115,101]⟩ a2).mono ?_
  rintro e c ⟨A,hx⟩
  obtain⟨ar,ap,bl,bh,ag⟩:=ma (cm.trans A.thr2) (cj.kept A aa) (dw bm A n) (dw bi A n) (bt.trans (A.mono (fun _ e=>.inl (.inl e))))
  clear A
  rcases hx with⟨h3,h4,rfl⟩|⟨h3,b,rfl,h4⟩
  case inr=>
   have HO:Hid ((M.2.v.go1 ts).ok=false/\aM c b #[aB (M.2.v.go1 ts).e,aB (M.2.v.go1 ts).a]):=⟨h3,h4⟩
   clear h3 h4
   go_wp2_with fail
   rw[Z.out.1,fL (pv:=⟨M.2.v.go1 ts,M.2.ats⟩) HO.out.1]
   exact⟨rfl,ar,.inr ⟨HO.1,b,rfl,HO.2⟩⟩
  case inl=>
  have ch:=aG h4
  clear h3 h4
  have ca:=V.go1_le ts M.2.v
  have cp:Hid (Good ⟨M.2.v.go1 ts,M.2.ats⟩):=fun _=>by have:=be.1 af;show M.2.ats.length<=(M.2.v.go1 ts).i;omega
  have cr:Hid (ts.length<=f+(M.2.v.go1 ts).i):=by show _<=_;have h8:u.i+1<=M.2.v.i:=(be.2.ok af).2;have h9:=bz.out;omega
  generalize c8:M.2.v.go1 ts=v5 at *
  clear c8 ca
  have b8:Ce c bs 13 (.slice J 1 K):=ap.cell 13
  have cf:=ap.fz
  obtain⟨a4,a5,q,a9,bj,bp⟩:=vp (ch.below ((Below.refl _ _).drew)) (ap.below ((Below.refl _ _).drew)) (ar.drew) (gS bl) (gS bh) (ag.drew)
  have cz:=ar.size
  generalize al:cH ts (aV ts f) dep ⟨v5,M.2.ats⟩=CC at *
  replace al:=aG al
  go_wp2_with fail
  go_region_law (first|(refine iB rfl ?_;go_wp2_with fail;refine(c0 _ br bw s ⟨v5,M.2.ats⟩ dep a4 b3 cp cr).mono ?_;rw[al.out];rintro e l hO;cases G:CC.2.v.ok;(focus(obtain⟨A,b,rfl,B⟩:=hO.bad G;replace A:=aG A;replace B:=aG B;replace G:=aG G;clear hO;go_wp2_with fail;rw[Z.out.1];exact⟨rfl,q.trans A.thr2,.inr ⟨G,b,rfl,B⟩⟩));(obtain⟨A,W,ub,b9,rfl,E,L⟩:=hO.good G;have bk:=aG (dw a9 A n);have bg:=aG (dw bj A n);have a6:=aG (a5.kept A aa);have b7:Ce l bs 13 (.slice J 1 K):=a6.cell 13;have cd:=a6.fz;have cv:=a6.lt;have c1:=A.size;have bu:=aG (q.trans A.thr2);have bq:=aG (bp.trans (A.mono (fun _ e=>.inl (.inl e))));obtain⟨av,b5,rfl⟩:=aI E.1;replace W:=aG W;replace E:=aG E;replace L:=aG L;replace G:=aG G;clear hO A))|(refine bD rfl (.tmp 30) (.tmp 33) 217 rfl w.heap.size 104 i0 bV 1 24 Tryz.underlying217 t ay ab ax rfl (by decide) _ _ _ (by simp[Act.eval,Act.put]) (bg.alloc _) (Ad l.heap.size 0) 1 1 [.slice av b9.length b5] (by simp[Act.eval,Act.put]) rfl (cF _ _ _ _ (by simp)) (by intro u y;simp at y;subst y;rfl) (by decide) (by unfold maxLen;omega) (by omega) (by have:=bu.size;simp;omega) ?_;intro l7 w7 N g ac;obtain⟨p7,c7,rfl⟩:=aI N;have a8:Hid (∀k,Value.ownBlock (.slice p7 2 c7)=some k->Value.ownBlock (.slice J 1 K)=some k\/l.heap.size<=k):=(fun k A=>by rcases ac with h|h;(rw[h]at A;exact .inl A);(rw[h]at A;simp at A;exact .inr (by omega)));have Q:=aC.grown ((aC.refl (fun k=>Value.ownBlock (.slice J 1 K)=some k) l).alloc (.cells #[.slice av b9.length b5] 104)) g (fun k A=>.inl A);have o:Hid (∀k,Value.ownBlock (.slice J 1 K)=some k->w.heap.size<=k/\k< c.heap.size):=(fun k A=>bj.lt k A);have ao:=aG (a6.kept Q (fun e=>by have:=(o _ e).1;omega));have cg:=aG (W.kept Q (fun e=>by have:=(o _ e).1;omega) (fun e=>by have:=(o _ e).1;omega));have cl:=aG (bu.trans' Q (fun i e=>.inr (o i e).1));have b6:Ce w7 bs 13 (.slice J 1 K):=ao.cell 13;have cc:=ao.fz;replace Q:=aG Q;replace N:=aG N;clear g ac))
  all_goals
   go_wp2_with fail
   first|go_end0|refine bodyPost_ret (results_none rfl _ _ _) rfl ?_
   rw[Z.out.1,Z.out.2]
   have b0:w7.ownsRow w.heap.size 258 4 (.slice (some (Ad H.heap.size 0)) 1 1) 1 (eh [v.here ts]):=by
    refine bJ bk Q (fun k A e=>?_)
    have h8:=mz A
    have h9:=Y k e
    have cb:=bd.out
    simp[World.setCell]at cb
    omega
   have ak:aC (fun k=>gK br bw bs k\/Value.ownBlock (.slice J 1 K)=some k) S (w7.setCell (Ad bs 13) (.slice p7 2 c7)):=(bq.trans (Q.mono (fun _ e=>.inr e))).setCell (p:=Ad bs 13) (.inl (.inl (.inr rfl))) _
   have aj:aC (fun k=>k=bs\/Value.ownBlock (.slice J 1 K)=some k) l (w7.setCell (Ad bs 13) (.slice p7 2 c7)):=(aC.mono (T:=fun k=>k=bs\/Value.ownBlock (.slice J 1 K)=some k) Q (fun _ e=>.inr e)).setCell (p:=Ad bs 13) (.inl (.inl rfl)) _
   have cy:=ak.size
   have cx:=aj.size
   have h0:∀b,dZ (((H.setCell (Ad bs 12) (.slice (some (Ad H.heap.size 0)) 1 1)).alloc (fF (v.here ts))).drew) S b->b< S.heap.size/\¬(gK br bw bs b\/Value.ownBlock (.slice J 1 K)=some b)/\Own w (w7.setCell (Ad bs 13) (.slice p7 2 c7)) bs b:=fun b B=>by
    have h1:=B.1
    have h2:=B.2
    simp[World.setCell]at h1
    refine⟨h2,fun e=>?_,.inr ⟨by omega,by omega⟩⟩
    rcases e with(e|e)|e
    ·have:=n b e;omega
    ·omega
    ·have:=Y b e;omega
   have a0:∀b,dZ c.drew l b->b< l.heap.size/\¬(b=bs\/Value.ownBlock (.slice J 1 K)=some b)/\Own w (w7.setCell (Ad bs 13) (.slice p7 2 c7)) bs b:=fun b B=>by
    have h1:c.heap.size<=b:=B.1
    have h2:=B.2
    refine⟨h2,fun e=>?_,.inr ⟨by omega,by omega⟩⟩
    rcases e with e|e
    ·omega
    ·have:=(o b e).2;omega
   have b1:=bZ b0 13 (.slice p7 2 c7) z
   have az:=bZ N 13 (.slice p7 2 c7) z
   have c4:=bd.out
   simp[World.setCell]at c4
   have ct:S.heap.size<=c.heap.size:=ag.size
   have cs:c.heap.size<=l.heap.size:=c1
   have b2:∀i,dZ (((H.setCell (Ad bs 12) (.slice (some (Ad H.heap.size 0)) 1 1)).alloc (fF (v.here ts))).drew) S i->¬dZ c.drew l i:=fun i a b=>by have:=a.2;have h9:c.heap.size<=i:=b.1;omega
   have hq:∀b,(dZ (((H.setCell (Ad bs 12) (.slice (some (Ad H.heap.size 0)) 1 1)).alloc (fF (v.here ts))).drew) S b\/dZ c.drew l b)->Own w (w7.setCell (Ad bs 13) (.slice p7 2 c7)) bs b/\b≠bs/\Value.ownBlock (.slice (some (Ad H.heap.size 0)) 1 1)≠some b/\Value.ownBlock (.slice p7 2 c7)≠some b:=fun b B=>by
    rcases B with B|B
    ·have h9:=B.1
     simp[World.setCell]at h9
     have h8:=B.2
     exact⟨(h0 b B).2.2,fun e=>by omega,fun e=>by have:=mz e;omega,fun e=>by rcases a8 _ e with e|e;(have:=Y b e;omega);omega⟩
    ·have h9:c.heap.size<=b:=B.1
     have h8:=B.2
     exact⟨(a0 b B).2.2,fun e=>by omega,fun e=>by have:=mz e;omega,fun e=>by rcases a8 _ e with e|e;(have:=(o b e).2;omega);omega⟩
   exact⟨cl.thrS 13 _,.inl ⟨G,cg.setO bs 13 _ h1 h2,rfl,il.mk (.inl rfl) (ao.pblocks _) ⟨cU b1 (Nat.zero_le _),fun k A=>.inr (b1.lt k A)⟩ ⟨cU az (Nat.zero_le _),fun k A=>.inr (az.lt k A)⟩ (dM.cons (P:=fun b=>dZ (((H.setCell (Ad bs 12) (.slice (some (Ad H.heap.size 0)) 1 1)).alloc (fF (v.here ts))).drew) S b\/dZ c.drew l b) (R:=dZ c.drew l) (ae.keep ak (fun b B=>⟨(h0 b B).1,(h0 b B).2.1,.inl B⟩)) (bf.keep ak (fun b B=>⟨(h0 b B.1).1,(h0 b B.1).2.1,B⟩)) (dM.cons (P:=dZ c.drew l) (R:=fun _=>False) (E.keep aj (fun b B=>⟨(a0 b B).1,(a0 b B).2.1,B⟩)) (L.keep aj (fun b B=>⟨(a0 b B.1).1,(a0 b B.1).2.1,B⟩)) dM.nil (fun i t=>⟨t.1,t.2,fun e=>e⟩) (fun _ e=>e.elim)) (fun i t=>⟨.inl t.1,t.2,fun e=>b2 i t.1 e⟩) (fun i t=>⟨.inr t,fun e=>b2 i (ae.2 i e) t⟩)) ⟨hq,fun e=>by have:=mz e;omega,fun e=>by rcases a8 _ e with e|e;(have:=Y _ e;omega);omega,fun i e1 e2=>by have:=mz e1;rcases a8 _ e2 with e|e;(have:=Y _ e;omega);omega⟩⟩⟩
end
end
section
theorem Am{α:Type}{h:Hd}{b e:List α}(B:h.op≠13)(A:h.op≠14):An h b e=[]:=by
 unfold An;simp[B,A]
theorem BJ{ts:List bB}{d:Hd}{v:V}(h:d.op=0):(dQ ts d v).1.op≠13/\(dQ ts d v).1.op≠14:=by
 have C:∀(d:Hd) (v:V),d.op=0\/d.op=1->(Hd.sum ts d v).1.op=d.op:=fun d v _=>(wN ts d v).1
 have B:∀(d:Hd) (v:V),(Hd.right ts d v).1.op≠13/\(Hd.right ts d v).1.op≠14:=fun d v=>by
  unfold Hd.right
  repeat' split
  all_goals(first|(simp;done)|skip)
  all_goals(rw[(wN ts _ _).1];simp)
 have A:∀(d:Hd) (v:V),(Hd.simple ts d v).1.op≠13/\(Hd.simple ts d v).1.op≠14:=fun d v=>by
  unfold Hd.simple
  repeat' split
  all_goals(first|(simp;done)|exact B _ _)
 unfold dQ
 repeat' split
 all_goals(first|(simp;done)|exact A _ _)
theorem Ai{ts:List bB}{pv:PV}(h:(pv.v.here ts).text=[105,102]):
  (eS ts (aV ts f) d pv).2.v=Dv ts f (d+1) (pv.v.go1 ts) (fY pv ts)/\mf (eS ts (aV ts f) d pv).1=.mk {gF (ow pv ts)with kind:=13} [wL ((pv.v.go1 ts).here ts)] ((IK ts f (d+1) (pv.v.go1 ts) (fY pv ts)).map dY):=by
 rw[mL (.inl h)]
 have A:¬(pv.v.here ts).text=[119,104,105,108,101]:=by rw[h];decide
 have C:eY ts (aV ts f) d ⟨pv.v,fY pv ts⟩=rY ts f (d+1) (pv.v.go1 ts) (fY pv ts):=rfl
 have B:ns ts (aV ts f) d ⟨pv.v,fY pv ts⟩=KG ts f (d+1) (pv.v.go1 ts) (fY pv ts):=rfl
 unfold jN
 rw[if_neg A,C,B]
 unfold Dv IK
 split
 ·refine⟨rfl,?_⟩
  rw[mf]
  simp[fH,gF,ow,ta,fX,cY,po,An,dY]
 ·refine⟨rfl,?_⟩
  rw[mf]
  simp[fH,gF,ow,ta,fX,cY,po,An,dY]
theorem tL{ts:List bB}{pv:PV}(h:(pv.v.here ts).text=[119,104,105,108,101]):
  (eS ts (aV ts f) d pv).2.v=(cH ts (aV ts f) (d+1) ⟨(pv.v.go1 ts).named ts true,fY pv ts⟩).2.v/\mf (eS ts (aV ts f) d pv).1=.mk {gF (ow pv ts)with kind:=14} [wL ((pv.v.go1 ts).here ts)] [dY (cH ts (aV ts f) (d+1) ⟨(pv.v.go1 ts).named ts true,fY pv ts⟩).1]:=by
 rw[mL (.inr h)]
 unfold jN
 rw[if_pos h]
 refine⟨rfl,?_⟩
 rw[mf]
 simp[fH,gF,ow,ta,fX,cY,po,An,eY]
theorem JV{ts:List bB}(hB:lA ts f):yZ ts f:=by
 intro w X j s pv d h ad hg hf
 obtain⟨a4,HV⟩:=aN hB h
 have af:=h.rb.lt
 have ae:=h.wb.lt
 have HT:=aG h.tk
 have c3:=h.rb.cell 3
 have a8:Ce w X (1+2) (aB (pv.v.here ts).at_):=h.rb.cell 3
 have Y:Hid (∀u,u∈iI->pv.v.at ts u=decide ((pv.v.here ts).text=u)):=fun u hu=>h.text_at u hu
 have HG:=aG hg
 have h1:w.heap.size≠X:=by omega
 have h2:w.heap.size≠j:=by omega
 have t:Hid (¬gO X j w.heap.size):=fun e=>by rcases e with e|e<;>contradiction
 obtain⟨c,H⟩:=bM (w.alloc (.cells (bK (gF (ow pv ts)) bV bV) 219))
 have S:Hid (RV c X j s ts pv.v (d+1)):=by show RV _ _ _ _ _ _ _;rw[H];exact h.below (ba _ _)
 have p:Hid (aM c w.heap.size (bK (gF (ow pv ts)) bV bV)):=by show aM _ _ _;rw[H];exact aM.new _ _ _
 have ac:Hid (aC (gO X j) w c):=by show aC _ _ _;rw[H];exact(aC.refl _ _).alloc _
 have P:Hid (c.heap.size=w.heap.size+1):=by show _=_;rw[H];simp
 have F:Hid (∀w',aC (gK X j w.heap.size) c w'->aC (gO X j) w w'):=fun w' k=>ac.trans' k (fun i e=>by rcases e with e|e;exact .inl e;exact .inr (by omega))
 have l:Hid (∀w' b,Own c w' w.heap.size b->w.heap.size< w'.heap.size->dZ w w' b):=fun w' b o hl=>by have:=P.out;rcases o with e|e;exact⟨by omega,by omega⟩;exact⟨by omega,e.2⟩
 replace H:=aG H
 clear hB h hg
 go_in
 go_wp2_with fail
 show Calls _ _ _ (w.alloc (.cells (bK (gF (ow pv ts)) bV bV) 219)) _
 rw[<-H.out]
 clear H c3 a8
 by_cases O:(pv.v.here ts).text=[105,102]
 ·have HE:=aG O
  have L:pv.v.at ts [105,102]=true:=by rw[Y.out _ (by decide)];exact decide_eq_true O
  clear O
  obtain⟨G,r,a0⟩:=bY (Ai (ts:=ts) (f:=f) (d:=d) (pv:=pv) HE) (V.at_open L) L
  clear L
  have K:=aG (dS.go1 HT HV.lt r)
  refine(cK S ⟨#[105,102]⟩ a0).mono ?_
  rintro e w1 ⟨C,R⟩
  have E:Hid (aC (gK X j w.heap.size) c w1):=C.thr2
  have T:=aG (p.kept C t)
  clear C
  rcases R with⟨B,A,rfl⟩|⟨B,b,rfl,A⟩
  case inr=>
   have D:Hid ((pv.v.go1 ts).ok=false/\aM w1 b #[aB (pv.v.go1 ts).e,aB (pv.v.go1 ts).a]):=⟨B,A⟩
   clear B A
   go_wp2_with fail
   have e:Dv ts f (d+1) (pv.v.go1 ts) (fY pv ts)=pv.v.go1 ts:=by
    have e0:(rY ts f (d+1) (pv.v.go1 ts) (fY pv ts)).2.v=pv.v.go1 ts:=by unfold rY;rw[fL (pv:=⟨(pv.v.go1 ts).named ts true,fY pv ts⟩) (by simpa only[V.named_no D.out.1]using D.out.1)];exact V.named_no D.1 _
    rw[tM (by rw[e0];exact D.out.1),e0]
   rw[G.out.1,e]
   exact⟨rfl,F _ E,.inr ⟨D.1,b,rfl,D.2⟩⟩
  case inl=>
  have M:=aG A
  clear B A
  have y:Hid (Good ⟨pv.v.go1 ts,fY pv ts⟩):=fun x=>by have:=HG HV.ok;have:=(K.ok x).2;show(fY pv ts).length<=(pv.v.go1 ts).i;simp[fY];omega
  have z:Hid (ts.length<=f+(pv.v.go1 ts).i):=by show _<=_;have:=(K.ok M.ok).2;omega
  go_wp2_with fail
  refine(Ew a4 M (by omega) (fY pv ts) y z (ow pv ts) ⟨rfl,rfl,rfl⟩ rfl T h1 h2).mono ?_
  rintro e w2 ⟨C,R⟩
  have J:=aG (E.trans C)
  have n:=C.size
  have a6:=E.size
  clear C
  rcases R with⟨B,A,rfl,g⟩|⟨B,b,rfl,A⟩
  ·have W:=aG (And.intro B (And.intro A g))
   clear B A g
   go_wp2_with fail
   go_ret
   rw[G.out.1,G.out.2]
   refine⟨F _ J,.inl ⟨W.1,W.2.1,w.heap.size,rfl,?_⟩⟩
   have a5:=P.out
   exact W.2.2.keep (aC.refl (fun _=>False) _) (fun b o=>⟨by rcases o with e|e;omega;exact e.2,fun e=>e,l w2 b (by rcases o with e|e;exact .inl e;exact .inr ⟨by omega,e.2⟩) (by omega)⟩)
  ·have D:=aG (And.intro B A)
   clear B A
   go_wp2_with fail
   rw[G.out.1]
   exact⟨rfl,F _ J,.inr ⟨D.1,b,rfl,D.2⟩⟩
 ·have aa:=aG O
  have a2:Hid (pv.v.at ts [105,102]=false):=by show _=_;rw[Y.out _ (by decide)];exact decide_eq_false O
  clear O
  refine(dx S ⟨#[105,102]⟩ a2).mono ?_
  rintro e wq ⟨rfl,hq⟩
  subst wq
  go_wp2_with fail
  by_cases N:(pv.v.here ts).text=[119,104,105,108,101]
  case neg=>
   have a9:=aG N
   have a1:Hid (pv.v.at ts [119,104,105,108,101]=false):=by show _=_;rw[Y.out _ (by decide)];exact decide_eq_false N
   clear N
   obtain⟨q,m⟩:=aN (uy (body:=aV ts f) (d:=d) aa a9) (BJ (ts:=ts) (d:=ow pv ts) (v:=pv.v) rfl)
   refine(dx S ⟨#[119,104,105,108,101]⟩ a1).mono ?_
   rintro e wq ⟨rfl,hq⟩
   subst wq
   go_wp2_with fail
   refine(Er S (ow pv ts) ⟨rfl,rfl,rfl⟩ rfl rfl p h1 h2).mono ?_
   rintro e w1 ⟨C,R⟩
   have E:=aG C
   clear C
   rcases R with⟨B,A,rfl,sr,g,h6⟩|⟨B,b,rfl,A⟩
   case inr=>
    have D:=aG (And.intro B A)
    clear B A
    go_wp2_with fail
    rw[q.out]
    simp only[V.must_no D.out.1]
    exact⟨rfl,F _ E,.inr ⟨D.1,b,rfl,D.2⟩⟩
   case inl=>
   obtain⟨M,T,ab⟩:=bY A g h6
   clear B A g h6
   generalize a7:dQ ts (ow pv ts) pv.v=PR at *
   clear a7
   go_wp2_with fail
   refine(gV M ⟨#[59]⟩).mono ?_
   rintro e w2 ⟨C,R⟩
   obtain⟨J,a3,Z⟩:=bY (E.trans C.thr2) (T.kept C t) (dw ab C (fun i e=>by have:=P.out;rcases e with e|e<;>omega))
   have n:=a3.lt
   clear C
   rcases R with⟨B,A,rfl⟩|⟨B,b,rfl,A⟩
   ·have W:=aG (And.intro B A)
    clear B A
    go_wp2_with fail
    go_ret
    rw[q.out]
    refine⟨F _ J,.inl ⟨W.1,W.2,w.heap.size,rfl,?_⟩⟩
    rw[mf,Am m.out.1 m.out.2]
    refine il.mk (Q:=fun _=>False) ⟨Nat.le_refl _,n⟩ a3 ?_ (dL.none _ _ _ _) dM.nil ⟨fun _ e=>e.elim,fun e=>by have:=(Z.lt _ e).1;have:=P.out;omega,fun e=>(by cases e),fun _ _ e=>(by cases e)⟩
    rw[Em,List.length_map]
    exact⟨cU Z (Nat.zero_le _),fun k C=>⟨by have:=(Z.lt k C).1;have:=P.out;omega,(Z.lt k C).2⟩⟩
   ·have D:Hid ((PR.2.must ts [59]).ok=false/\aM w2 b #[aB (PR.2.must ts [59]).e,aB (PR.2.must ts [59]).a]):=⟨B,A⟩
    clear B A
    go_wp2_with fail
    rw[q.out]
    exact⟨rfl,F _ J,.inr ⟨D.1,b,rfl,D.2⟩⟩
  case pos=>
  have HE:=aG N
  have L:pv.v.at ts [119,104,105,108,101]=true:=by rw[Y.out _ (by decide)];exact decide_eq_true N
  clear N
  obtain⟨G,r,a0⟩:=bY (tL (ts:=ts) (f:=f) (d:=d) (pv:=pv) HE) (V.at_open L) L
  clear L
  have K:=aG (dS.go1 HT HV.lt r)
  refine(cK S ⟨#[119,104,105,108,101]⟩ a0).mono ?_
  rintro e w1 ⟨C,R⟩
  have E:Hid (aC (gK X j w.heap.size) c w1):=C.thr2
  have T:=aG (p.kept C t)
  clear C
  rcases R with⟨B,A,rfl⟩|⟨B,b,rfl,A⟩
  case inr=>
   have D:Hid ((pv.v.go1 ts).ok=false/\aM w1 b #[aB (pv.v.go1 ts).e,aB (pv.v.go1 ts).a]):=⟨B,A⟩
   clear B A
   go_wp2_with fail
   have e:(cH ts (aV ts f) (d+1) ⟨(pv.v.go1 ts).named ts true,fY pv ts⟩).2.v=pv.v.go1 ts:=by
    rw[fL (pv:=⟨(pv.v.go1 ts).named ts true,fY pv ts⟩) (by simpa only[V.named_no D.out.1]using D.out.1)];exact V.named_no D.1 _
   rw[G.out.1,e]
   exact⟨rfl,F _ E,.inr ⟨D.1,b,rfl,D.2⟩⟩
  case inl=>
  have M:=aG A
  clear B A
  have y:Hid (Good ⟨pv.v.go1 ts,fY pv ts⟩):=fun x=>by have:=HG HV.ok;have:=(K.ok x).2;show(fY pv ts).length<=(pv.v.go1 ts).i;simp[fY];omega
  have z:Hid (ts.length<=f+(pv.v.go1 ts).i):=by show _<=_;have:=(K.ok M.ok).2;omega
  go_wp2_with fail
  refine(JX a4 M (by omega) (fY pv ts) y z (ow pv ts) ⟨rfl,rfl,rfl⟩ rfl T h1 h2).mono ?_
  rintro e w2 ⟨C,R⟩
  have J:=aG (E.trans C)
  have n:=C.size
  have a6:=E.size
  clear C
  rcases R with⟨B,A,rfl,g⟩|⟨B,b,rfl,A⟩
  ·have W:=aG (And.intro B (And.intro A g))
   clear B A g
   go_wp2_with fail
   go_ret
   rw[G.out.1,G.out.2]
   refine⟨F _ J,.inl ⟨W.1,W.2.1,w.heap.size,rfl,?_⟩⟩
   have a5:=P.out
   exact W.2.2.keep (aC.refl (fun _=>False) _) (fun b o=>⟨by rcases o with e|e;omega;exact e.2,fun e=>e,l w2 b (by rcases o with e|e;exact .inl e;exact .inr ⟨by omega,e.2⟩) (by omega)⟩)
  ·have D:=aG (And.intro B A)
   clear B A
   go_wp2_with fail
   rw[G.out.1]
   exact⟨rfl,F _ J,.inr ⟨D.1,b,rfl,D.2⟩⟩
end
section
theorem xi(ts:List bB)(f:Nat):lA ts f:=by
 induction f using Nat.strongRecOn with
 |_ f ih=>exact Ho (fun g hg=>JV (ih g hg))
structure Pn where
 text:aJ
 at_:Nat
 num:Nat
def DH(t:bB):Pn:=⟨t.text,t.at_,0⟩
def Jh(a:Pn):List Value:=[.string ⟨a.text.toArray⟩,.int .i64 a.at_,.int .i64 a.num]
def lY(l:List Pn):List Value:=l.flatMap Jh
theorem Eh(l:List bB):lY (l.map DH)=gI l:=by
 induction l with
 |nil=>rfl
 |cons a l ih=>simp only[lY,gI,List.map_cons,List.flatMap_cons]at ih⊢;rw[ih];rfl
structure Pd where
 kind:Nat:=0
 name:aJ:=[]
 at_:Nat:=0
 num:Nat:=0
 params:List Pn:=[]
 body:List eM:=[]
 locals:Nat:=0
def nj(p:Pd)(sp sb:Value):Array Value:=#[.int .i64 p.kind,.string ⟨p.name.toArray⟩,.int .i64 p.at_,.int .i64 p.num,sp,sb,.int .i64 p.locals]
def Kn(k:Nat):Nat:=if k=118 then 0 else if k=109 then 1 else 2
def jE(d:yo):Pd:={kind:=Kn d.kind,name:=d.name.text,at_:=d.name.at_,params:=d.params.map DH,body:=dY d.body}
def ko(w:World)(P:Nat->Prop)(b:Nat)(p:Pd):Prop:=∃sp sb bb,∃Q:Nat->Prop,P b/\aM w b (nj p sp sb)/\dL w P 119 3 sp p.params.length (lY p.params)/\dL w P 167 1 sb bb.length (fg bb)/\cV w Q bb p.body/\Gv P Q b sp sb
theorem ko.keep{w':World}{P P' S:Nat->Prop}(k:aC S w w')(A:∀b,P b->b< w.heap.size/\¬S b/\P' b){p:Pd}(h:ko w P b p):ko w' P' b p:=by
 obtain⟨sp,sb,J,Q,D,H,G,F,E,C⟩:=h
 exact⟨sp,sb,J,Q,(A b D).2.2,H.kept k (A b D).2.1,G.keep k A,F.keep k A,E.keep k (fun i B=>⟨(A i (C.q i B).1).1,(A i (C.q i B).1).2.1,B⟩),C.mono (fun i B=>(A i B).2.2)⟩
def eL(ts:List bB)(pv:PV):yo×PV:=
 if(pv.v.here ts).text=[118,97,114]then(⟨118,(pv.v.go1 ts).here ts,[],[]⟩,⟨((pv.v.go1 ts).named ts false).must ts [59],pv.ats⟩)
 else if(pv.v.here ts).text=[109,117,116,101,120]then(⟨109,(pv.v.go1 ts).here ts,[],[]⟩,⟨((pv.v.go1 ts).named ts false).must ts [59],pv.ats⟩)
 else if(pv.v.here ts).text=[102,117,110,99]then(⟨102,(pv.v.go1 ts).here ts,(V.list ts false ((pv.v.go1 ts).named ts false)).1,(qr ts pv).1⟩,(qr ts pv).2)
 else(⟨0,⟨0,[],0,0⟩,[],[]⟩,⟨pv.v.flt 5 (pv.v.here ts).at_,pv.ats⟩)
theorem CM(ts:List bB)(s:List yo×PV)(h:(eL ts s.2).2.v.ok=true)(A:s.2.v.ok=true):fu ts s=(s.1++[(eL ts s.2).1],(eL ts s.2).2):=by
 unfold eL at h⊢
 unfold fu
 by_cases D:(s.2.v.here ts).text=[118,97,114]
 ·simp[D]
 by_cases C:(s.2.v.here ts).text=[109,117,116,101,120]
 ·simp[C]
 by_cases B:(s.2.v.here ts).text=[102,117,110,99]
 ·simp[B]
 ·simp only[D,C,B,if_false]at h
  rw[(V.flt_yes A 5 _ (by decide)).1]at h
  cases h
theorem Fu(ts:List bB)(s:List yo×PV):(fu ts s).2=(eL ts s.2).2:=by
 unfold eL fu
 repeat' split
 all_goals rfl
theorem tT:(Tryz.prog.info? 107).map (fun i=>(i.zero,i.size,i.bytes))=some (some (.pointer none),1,8):=by kernel_rfl
theorem JY{s:ByteArray}{ts:List bB}{pv:PV}(h:RV w c d s ts pv.v 0)(hg:Good pv):
  Calls Tryz.prog 38 #[.pointer (some ⟨c,0,none⟩)] w fun r w'=>kq w w' c d s ts (eL ts pv).2.v 0 r (fun r w'=>∃bd,r=.returned (aF bd)/\ko w' (dZ w w') bd (jE (eL ts pv).1)):=by
 have HV:=aG h
 have bn:=h.rb.lt
 have bm:=h.wb.lt
 have HT:=aG h.tk
 have a0:Hid (∀u,u∈iI->pv.v.at ts u=decide ((pv.v.here ts).text=u)):=fun u hu=>h.text_at u hu
 have HG:=aG hg
 have o:w.heap.size≠c:=by omega
 have n:w.heap.size≠d:=by omega
 have N:Hid (¬gO c d w.heap.size):=fun e=>by rcases e with e|e<;>contradiction
 obtain⟨M,X⟩:=bM (w.alloc (.cells (nj {} bV bV) 122))
 have m:Hid (RV M c d s ts pv.v 0):=by show RV _ _ _ _ _ _ _;rw[X];exact h.below (ba _ _)
 have av:Hid (aM M w.heap.size (nj {} bV bV)):=by show aM _ _ _;rw[X];exact aM.new _ _ _
 have b2:Hid (aC (gO c d) w M):=by show aC _ _ _;rw[X];exact(aC.refl _ _).alloc _
 have t:Hid (M.heap.size=w.heap.size+1):=by show _=_;rw[X];simp
 have H:Hid (∀w',aC (gK c d w.heap.size) M w'->aC (gO c d) w w'):=fun w' k=>b2.trans' k (fun i e=>by rcases e with e|e;exact .inl e;exact .inr (by omega))
 replace X:=aG X
 clear h hg
 go_in
 go_wp2_with fail
 show Calls _ _ _ (w.alloc (.cells (nj {} bV bV) 122)) _
 rw[<-X.out]
 clear X
 by_cases O:(pv.v.here ts).text=[118,97,114]
 case pos=>
  have HE:=aG O
  have K:pv.v.at ts [118,97,114]=true:=by rw[a0.out _ (by decide)];exact decide_eq_true O
  obtain⟨ad,ag⟩:=aN (V.at_open K) K
  clear O K
  have ah:=aG (dS.go1 HT HV.lt ad)
  have C:Hid (eL ts pv=(⟨118,(pv.v.go1 ts).here ts,[],[]⟩,⟨((pv.v.go1 ts).named ts false).must ts [59],pv.ats⟩)):=by show _=_;unfold eL;rw[HE.out];rfl
  have af:Hid (aC (gK c d w.heap.size) M M):=aC.refl _ _
  have ab:=av
  refine(cK m ⟨#[118,97,114]⟩ ag).mono ?_
  rintro e l ⟨E,R⟩
  have g:Hid (aC (gK c d w.heap.size) M l):=af.trans E.thr2
  have L:=aG (ab.kept E N)
  clear E
  rcases R with⟨B,A,rfl⟩|⟨B,b,rfl,A⟩
  case inr=>
   have D:Hid ((pv.v.go1 ts).ok=false/\aM l b #[aB (pv.v.go1 ts).e,aB (pv.v.go1 ts).a]):=⟨B,A⟩
   clear B A
   go_wp2_with fail
   rw[C.out]
   simp only[V.named_no D.out.1,V.must_no D.out.1]
   exact⟨rfl,H _ g,.inr ⟨D.1,b,rfl,D.2⟩⟩
  case inl=>
  obtain⟨a9,ay⟩:=aN A B
  clear B A
  have c0:Ce l w.heap.size 0 (aB 0):=L.cell 0
  have p:=L.fz
  go_wp2_with fail
  clear c0 p
  have z:=aG (a9.setO w.heap.size 0 (aB 0) o n)
  have aa:Hid (aM (l.setCell ⟨w.heap.size,0,none⟩ (aB 0)) w.heap.size (nj {kind:=0} bV bV)):=L.set 0 _ (show 0< 7 by decide)
  have ae:=aG (g.thrS 0 (aB 0))
  generalize Y:pv.v.go1 ts=G at *
  replace Y:=aG Y
  refine(jl z).mono ?_
  rintro e J ⟨E,R⟩
  have f:Hid (aC (gK c d w.heap.size) M J):=ae.trans E.thr2
  have F:=aG (aa.kept E N)
  clear E
  rcases R with⟨B,A,rfl⟩|⟨B,b,rfl,A⟩
  case inr=>
   have D:Hid ((G.named ts false).ok=false/\aM J b #[aB (G.named ts false).e,aB (G.named ts false).a]):=⟨B,A⟩
   clear B A
   go_wp2_with fail
   rw[C.out]
   simp only[V.must_no D.out.1]
   exact⟨rfl,H _ f,.inr ⟨D.1,b,rfl,D.2⟩⟩
  case inl=>
  obtain⟨a8,ax⟩:=aN A B
  clear B A
  have c1:Ce J w.heap.size 1 (.string ⟨#[]⟩):=F.cell 1
  have c2:Ce J w.heap.size 2 (aB 0):=F.cell 2
  have c3:Ce J w.heap.size 3 (aB 0):=F.cell 3
  have c0:Ce J w.heap.size 0 (aB 0):=F.cell 0
  have p:=F.fz
  unfold gH
  go_wp2_with fail
  clear c0 c1 c2 c3 p
  have y:=aG (((a8.setO w.heap.size 1 (.string ⟨(G.here ts).text.toArray⟩) o n).setO w.heap.size 2 (aB (G.here ts).at_) o n).setO w.heap.size 3 (aB 0) o n)
  have a5:Hid (aM (((J.setCell ⟨w.heap.size,1,none⟩ (.string ⟨(G.here ts).text.toArray⟩)).setCell ⟨w.heap.size,2,none⟩ (aB (G.here ts).at_)).setCell ⟨w.heap.size,3,none⟩ (aB 0)) w.heap.size (nj {kind:=0,name:=(G.here ts).text,at_:=(G.here ts).at_} bV bV)):=((F.set 1 _ (show 1< 7 by decide)).set 2 _ (show 2< 7 by decide)).set 3 _ (show 3< 7 by decide)
  have a6:=aG (((f.thrS 1 (.string ⟨(G.here ts).text.toArray⟩)).thrS 2 (aB (G.here ts).at_)).thrS 3 (aB 0))
  generalize q:G.named ts false=u4 at *
  clear q
  refine(gV y ⟨#[59]⟩).mono ?_
  rintro e w5 ⟨E,R⟩
  have T:Hid (aC (gK c d w.heap.size) M w5):=a6.trans E.thr2
  have S:=aG (a5.kept E N)
  clear E
  rcases R with⟨B,A,rfl⟩|⟨B,b,rfl,A⟩
  case inr=>
   have D:Hid ((u4.must ts [59]).ok=false/\aM w5 b #[aB (u4.must ts [59]).e,aB (u4.must ts [59]).a]):=⟨B,A⟩
   clear B A
   go_wp2_with fail
   rw[C.out]
   exact⟨rfl,H _ T,.inr ⟨D.1,b,rfl,D.2⟩⟩
  case inl=>
  obtain⟨a7,al⟩:=aN A B
  clear B A
  have ai:=S.lt
  go_wp2_with fail
  go_ret
  rw[C.out]
  exact⟨H _ T,.inl ⟨al,a7,w.heap.size,rfl,bV,bV,[],fun _=>False,⟨Nat.le_refl _,ai⟩,S,dL.none _ _ _ _,dL.none _ _ _ _,by show cV _ _ _ (dY []);rw[dY];exact cV.nil,fun _ e=>e.elim,fun e=>(by cases e),fun e=>(by cases e),fun _ _ e=>(by cases e)⟩⟩
 case neg=>
 have an:=aG O
 have aq:Hid (pv.v.at ts [118,97,114]=false):=by show _=_;rw[a0.out _ (by decide)];exact decide_eq_false O
 clear O
 refine(dx m ⟨#[118,97,114]⟩ aq).mono ?_
 rintro e wq ⟨rfl,hq⟩
 subst wq
 go_wp2_with fail
 by_cases P:(pv.v.here ts).text=[109,117,116,101,120]
 case pos=>
  have HE:=aG P
  have K:pv.v.at ts [109,117,116,101,120]=true:=by rw[a0.out _ (by decide)];exact decide_eq_true P
  obtain⟨ad,ag⟩:=aN (V.at_open K) K
  clear P K
  have ah:=aG (dS.go1 HT HV.lt ad)
  have C:Hid (eL ts pv=(⟨109,(pv.v.go1 ts).here ts,[],[]⟩,⟨((pv.v.go1 ts).named ts false).must ts [59],pv.ats⟩)):=by show _=_;unfold eL;rw[HE.out];rfl
  have af:Hid (aC (gK c d w.heap.size) M M):=aC.refl _ _
  have ab:=av
  refine(cK m ⟨#[109,117,116,101,120]⟩ ag).mono ?_
  rintro e l ⟨E,R⟩
  have g:Hid (aC (gK c d w.heap.size) M l):=af.trans E.thr2
  have L:=aG (ab.kept E N)
  clear E
  rcases R with⟨B,A,rfl⟩|⟨B,b,rfl,A⟩
  case inr=>
   have D:Hid ((pv.v.go1 ts).ok=false/\aM l b #[aB (pv.v.go1 ts).e,aB (pv.v.go1 ts).a]):=⟨B,A⟩
   clear B A
   go_wp2_with fail
   rw[C.out]
   simp only[V.named_no D.out.1,V.must_no D.out.1]
   exact⟨rfl,H _ g,.inr ⟨D.1,b,rfl,D.2⟩⟩
  case inl=>
  obtain⟨a9,ay⟩:=aN A B
  clear B A
  have c0:Ce l w.heap.size 0 (aB 0):=L.cell 0
  have p:=L.fz
  go_wp2_with fail
  clear c0 p
  have z:=aG (a9.setO w.heap.size 0 (aB 1) o n)
  have aa:Hid (aM (l.setCell ⟨w.heap.size,0,none⟩ (aB 1)) w.heap.size (nj {kind:=1} bV bV)):=L.set 0 _ (show 0< 7 by decide)
  have ae:=aG (g.thrS 0 (aB 1))
  generalize Y:pv.v.go1 ts=G at *
  replace Y:=aG Y
  refine(jl z).mono ?_
  rintro e J ⟨E,R⟩
  have f:Hid (aC (gK c d w.heap.size) M J):=ae.trans E.thr2
  have F:=aG (aa.kept E N)
  clear E
  rcases R with⟨B,A,rfl⟩|⟨B,b,rfl,A⟩
  case inr=>
   have D:Hid ((G.named ts false).ok=false/\aM J b #[aB (G.named ts false).e,aB (G.named ts false).a]):=⟨B,A⟩
   clear B A
   go_wp2_with fail
   rw[C.out]
   simp only[V.must_no D.out.1]
   exact⟨rfl,H _ f,.inr ⟨D.1,b,rfl,D.2⟩⟩
  case inl=>
  obtain⟨a8,ax⟩:=aN A B
  clear B A
  have c1:Ce J w.heap.size 1 (.string ⟨#[]⟩):=F.cell 1
  have c2:Ce J w.heap.size 2 (aB 0):=F.cell 2
  have c3:Ce J w.heap.size 3 (aB 0):=F.cell 3
  have c0:Ce J w.heap.size 0 (aB 1):=F.cell 0
  have p:=F.fz
  unfold gH
  go_wp2_with fail
  clear c0 c1 c2 c3 p
  have y:=aG (((a8.setO w.heap.size 1 (.string ⟨(G.here ts).text.toArray⟩) o n).setO w.heap.size 2 (aB (G.here ts).at_) o n).setO w.heap.size 3 (aB 0) o n)
  have a5:Hid (aM (((J.setCell ⟨w.heap.size,1,none⟩ (.string ⟨(G.here ts).text.toArray⟩)).setCell ⟨w.heap.size,2,none⟩ (aB (G.here ts).at_)).setCell ⟨w.heap.size,3,none⟩ (aB 0)) w.heap.size (nj {kind:=1,name:=(G.here ts).text,at_:=(G.here ts).at_} bV bV)):=((F.set 1 _ (show 1< 7 by decide)).set 2 _ (show 2< 7 by decide)).set 3 _ (show 3< 7 by decide)
  have a6:=aG (((f.thrS 1 (.string ⟨(G.here ts).text.toArray⟩)).thrS 2 (aB (G.here ts).at_)).thrS 3 (aB 0))
  generalize q:G.named ts false=u4 at *
  clear q
  refine(gV y ⟨#[59]⟩).mono ?_
  rintro e w5 ⟨E,R⟩
  have T:Hid (aC (gK c d w.heap.size) M w5):=a6.trans E.thr2
  have S:=aG (a5.kept E N)
  clear E
  rcases R with⟨B,A,rfl⟩|⟨B,b,rfl,A⟩
  case inr=>
   have D:Hid ((u4.must ts [59]).ok=false/\aM w5 b #[aB (u4.must ts [59]).e,aB (u4.must ts [59]).a]):=⟨B,A⟩
   clear B A
   go_wp2_with fail
   rw[C.out]
   exact⟨rfl,H _ T,.inr ⟨D.1,b,rfl,D.2⟩⟩
  case inl=>
  obtain⟨a7,al⟩:=aN A B
  clear B A
  have ai:=S.lt
  go_wp2_with fail
  go_ret
  rw[C.out]
  exact⟨H _ T,.inl ⟨al,a7,w.heap.size,rfl,bV,bV,[],fun _=>False,⟨Nat.le_refl _,ai⟩,S,dL.none _ _ _ _,dL.none _ _ _ _,by show cV _ _ _ (dY []);rw[dY];exact cV.nil,fun _ e=>e.elim,fun e=>(by cases e),fun e=>(by cases e),fun _ _ e=>(by cases e)⟩⟩
 case neg=>
 have ao:=aG P
 have ar:Hid (pv.v.at ts [109,117,116,101,120]=false):=by show _=_;rw[a0.out _ (by decide)];exact decide_eq_false P
 clear P
 refine(dx m ⟨#[109,117,116,101,120]⟩ ar).mono ?_
 rintro e wq ⟨rfl,hq⟩
 subst wq
 go_wp2_with fail
 by_cases Q:(pv.v.here ts).text=[102,117,110,99]
 case pos=>
  have HE:=aG Q
  have K:pv.v.at ts [102,117,110,99]=true:=by rw[a0.out _ (by decide)];exact decide_eq_true Q
  obtain⟨ad,ag⟩:=aN (V.at_open K) K
  clear Q K
  have ah:=aG (dS.go1 HT HV.lt ad)
  have C:Hid (eL ts pv=(⟨102,(pv.v.go1 ts).here ts,(V.list ts false ((pv.v.go1 ts).named ts false)).1,(cH ts (aV ts ts.length) 0 ⟨(V.list ts false ((pv.v.go1 ts).named ts false)).2,pv.ats⟩).1⟩,(cH ts (aV ts ts.length) 0 ⟨(V.list ts false ((pv.v.go1 ts).named ts false)).2,pv.ats⟩).2)):=by show _=_;unfold eL qr;rw[HE.out];rfl
  have af:Hid (aC (gK c d w.heap.size) M M):=aC.refl _ _
  have ab:=av
  refine(cK m ⟨#[102,117,110,99]⟩ ag).mono ?_
  rintro e l ⟨E,R⟩
  have g:Hid (aC (gK c d w.heap.size) M l):=af.trans E.thr2
  have L:=aG (ab.kept E N)
  clear E
  rcases R with⟨B,A,rfl⟩|⟨B,b,rfl,A⟩
  case inr=>
   have D:Hid ((pv.v.go1 ts).ok=false/\aM l b #[aB (pv.v.go1 ts).e,aB (pv.v.go1 ts).a]):=⟨B,A⟩
   clear B A
   go_wp2_with fail
   rw[C.out]
   simp only[]
   rw[fL (by simpa only[V.named_no D.out.1,V.list_no D.out.1]using D.out.1)]
   simp only[V.named_no D.out.1,V.list_no D.out.1]
   exact⟨rfl,H _ g,.inr ⟨D.1,b,rfl,D.2⟩⟩
  case inl=>
  obtain⟨a9,ay⟩:=aN A B
  clear B A
  have c0:Ce l w.heap.size 0 (aB 0):=L.cell 0
  have p:=L.fz
  go_wp2_with fail
  clear c0 p
  have z:=aG (a9.setO w.heap.size 0 (aB 2) o n)
  have aa:Hid (aM (l.setCell ⟨w.heap.size,0,none⟩ (aB 2)) w.heap.size (nj {kind:=2} bV bV)):=L.set 0 _ (show 0< 7 by decide)
  have ae:=aG (g.thrS 0 (aB 2))
  generalize Y:pv.v.go1 ts=G at *
  replace Y:=aG Y
  refine(jl z).mono ?_
  rintro e J ⟨E,R⟩
  have f:Hid (aC (gK c d w.heap.size) M J):=ae.trans E.thr2
  have F:=aG (aa.kept E N)
  clear E
  rcases R with⟨B,A,rfl⟩|⟨B,b,rfl,A⟩
  case inr=>
   have D:Hid ((G.named ts false).ok=false/\aM J b #[aB (G.named ts false).e,aB (G.named ts false).a]):=⟨B,A⟩
   clear B A
   go_wp2_with fail
   rw[C.out]
   simp only[]
   rw[fL (by simpa only[V.list_no D.out.1]using D.out.1)]
   simp only[V.list_no D.out.1]
   exact⟨rfl,H _ f,.inr ⟨D.1,b,rfl,D.2⟩⟩
  case inl=>
  obtain⟨a8,ax⟩:=aN A B
  clear B A
  have c1:Ce J w.heap.size 1 (.string ⟨#[]⟩):=F.cell 1
  have c2:Ce J w.heap.size 2 (aB 0):=F.cell 2
  have c3:Ce J w.heap.size 3 (aB 0):=F.cell 3
  have c0:Ce J w.heap.size 0 (aB 2):=F.cell 0
  have p:=F.fz
  have bl:∀(fn:Fn) (first cap:Array Value) (w:World),(Instr.makeFunc fn first cap).run Tryz.prog w=.ok (.func fn first cap) w:=fun _ _ _ _=>rfl
  unfold gH
  go_wp2_with fail
  clear c0 c1 c2 c3 p
  have y:=aG (((a8.setO w.heap.size 1 (.string ⟨(G.here ts).text.toArray⟩) o n).setO w.heap.size 2 (aB (G.here ts).at_) o n).setO w.heap.size 3 (aB 0) o n)
  have a5:Hid (aM (((J.setCell ⟨w.heap.size,1,none⟩ (.string ⟨(G.here ts).text.toArray⟩)).setCell ⟨w.heap.size,2,none⟩ (aB (G.here ts).at_)).setCell ⟨w.heap.size,3,none⟩ (aB 0)) w.heap.size (nj {kind:=2,name:=(G.here ts).text,at_:=(G.here ts).at_} bV bV)):=((F.set 1 _ (show 1< 7 by decide)).set 2 _ (show 2< 7 by decide)).set 3 _ (show 3< 7 by decide)
  have a6:=aG (((f.thrS 1 (.string ⟨(G.here ts).text.toArray⟩)).thrS 2 (aB (G.here ts).at_)).thrS 3 (aB 0))
  have bj:=a5.lt
  have b4:=aG (dS.named (ts:=ts) false HT z.lt)
  generalize q:G.named ts false=u4 at *
  replace q:=aG q
  refine(zy y).mono ?_
  rintro e w5 ⟨E,R⟩
  have T:Hid (aC (gK c d w.heap.size) M w5):=a6.trans E.thr2
  have S:=aG (a5.kept E N)
  clear E
  rcases R with⟨B,A,sp,rfl,h5⟩|⟨B,b,rfl,A⟩
  case inr=>
   have D:Hid (((V.list ts false u4).2).ok=false/\aM w5 b #[aB ((V.list ts false u4).2).e,aB ((V.list ts false u4).2).a]):=⟨B,A⟩
   clear B A
   go_wp2_with fail
   rw[C.out]
   simp only[]
   rw[fL (by exact D.out.1)]
   exact⟨rfl,H _ T,.inr ⟨D.1,b,rfl,D.2⟩⟩
  case inl=>
  obtain⟨a7,al⟩:=aN A B
  clear B A
  obtain⟨W,Z,rfl⟩:=aI h5
  have be:=aG (cU h5 (show M.heap.size<=_ by have:=a6.size;exact this))
  clear h5
  have b5:=aG (dS.list (ts:=ts) false HT y.lt)
  have c4:Ce w5 w.heap.size 4 bV:=S.cell 4
  have p:=S.fz
  have ai:=T.size
  go_wp2_with fail
  clear c4 p
  generalize b0:V.list ts false u4=j at *
  replace b0:=aG b0
  have b7:=aG (a7.setO w.heap.size 4 (.slice W j.1.length Z) o n)
  have b8:Hid (aM (w5.setCell ⟨w.heap.size,4,none⟩ (.slice W j.1.length Z)) w.heap.size (nj {kind:=2,name:=(G.here ts).text,at_:=(G.here ts).at_} (.slice W j.1.length Z) bV)):=S.set 4 _ (show 4< 7 by decide)
  obtain⟨bf,ak⟩:=aN (T.thrS 4 (.slice W j.1.length Z)) (bZ (b:=w.heap.size) be 4 (.slice W j.1.length Z) (by have:=t.out;omega))
  have bg:Hid (Good ⟨j.2,pv.ats⟩):=fun x=>by have a1:=HG HV.ok;have a2:=(b5.ok x).2;have a3:=(b4.ok ax).2;have a4:=(ah.ok ay).2;show pv.ats.length<=j.2.i;omega
  refine(xi ts ts.length _ c d s ⟨j.2,pv.ats⟩ 0 b7 (by omega) bg (by omega)).mono ?_
  rintro e w7 ⟨E,R⟩
  have b3:Hid (aC (gK c d w.heap.size) M w7):=bf.trans E.thr2
  obtain⟨aj,b9⟩:=aN (b8.kept E N) (dw ak E (fun i e=>by have:=t.out;rcases e with e|e<;>omega))
  clear E
  rcases R with⟨B,A,u7,bb,rfl,h5,h6⟩|⟨B,b,rfl,A⟩
  case inr=>
   have D:Hid (((cH ts (aV ts ts.length) 0 ⟨j.2,pv.ats⟩).2.v).ok=false/\aM w7 b #[aB ((cH ts (aV ts ts.length) 0 ⟨j.2,pv.ats⟩).2.v).e,aB ((cH ts (aV ts ts.length) 0 ⟨j.2,pv.ats⟩).2.v).a]):=⟨B,A⟩
   clear B A
   go_wp2_with fail
   rw[C.out]
   exact⟨rfl,H _ b3,.inr ⟨D.1,b,rfl,D.2⟩⟩
  case inl=>
  obtain⟨b6,bh⟩:=aN A B
  clear B A
  obtain⟨pu,cu,rfl⟩:=aI h5.1
  obtain⟨ac,b1⟩:=aN h5 h6
  clear h5 h6
  have c5:Ce w7 w.heap.size 5 bV:=aj.cell 5
  have p:=aj.fz
  have bi:=aj.lt
  go_wp2_with fail
  go_ret
  rw[C.out]
  have az:=(aC.refl (aK w.heap.size) w7).set1 5 (.slice pu bb.length cu)
  have bk:(w7.setCell ⟨w.heap.size,5,none⟩ (.slice pu bb.length cu)).heap.size=w7.heap.size:=by simp[World.setCell]
  have h0:∀b,dZ (w5.setCell ⟨w.heap.size,4,none⟩ (.slice W j.1.length Z)) w7 b->b< w7.heap.size/\¬aK w.heap.size b/\dZ w (w7.setCell ⟨w.heap.size,5,none⟩ (.slice pu bb.length cu)) b:=fun b hb=>by have a1:=hb.1;have a2:=hb.2;simp[World.setCell]at a1;have a3:=t.out;exact⟨a2,fun e=>by have:b=w.heap.size:=e;omega,by omega,by omega⟩
  have am:=bZ (b:=w.heap.size) b9 5 (.slice pu bb.length cu) (by have:=t.out;omega)
  refine⟨H _ (b3.thrS 5 _),.inl ⟨bh,b6.setO w.heap.size 5 _ o n,w.heap.size,rfl,.slice W j.1.length Z,.slice pu bb.length cu,bb,fun b=>dZ (w5.setCell ⟨w.heap.size,4,none⟩ (.slice W j.1.length Z)) w7 b/\Value.ownBlock (.slice pu bb.length cu)≠some b,⟨Nat.le_refl _,by omega⟩,aj.set 5 _ (show 5< 7 by decide),?_,ac.keep az h0,b1.keep az (fun b hb=>⟨(h0 b hb.1).1,(h0 b hb.1).2.1,hb⟩),fun b hb=>⟨(h0 b hb.1).2.2,(h0 b hb.1).2.1,fun e=>by have:=(ak.lt b e).2;have:=hb.1.1;omega,hb.2⟩,fun e=>by have:=(ak.lt _ e).1;have:=t.out;omega,fun e=>(h0 _ (ac.2 _ e)).2.1 rfl,fun i e1 e2=>by have:=(ak.lt i e1).2;have:=(ac.2 i e2).1;omega⟩⟩
  show dL _ _ _ _ _ (j.1.map DH).length (lY (j.1.map DH))
  rw[Eh,List.length_map]
  exact⟨cU am (Nat.zero_le _),fun k E=>⟨by have:=(am.lt k E).1;have:=t.out;omega,(am.lt k E).2⟩⟩
 case neg=>
 have ap:=aG Q
 have au:Hid (pv.v.at ts [102,117,110,99]=false):=by show _=_;rw[a0.out _ (by decide)];exact decide_eq_false Q
 clear Q
 refine(dx m ⟨#[102,117,110,99]⟩ au).mono ?_
 rintro e wq ⟨rfl,hq⟩
 subst wq
 go_wp2_with fail
 have C:Hid (eL ts pv=(⟨0,⟨0,[],0,0⟩,[],[]⟩,⟨pv.v.flt 5 (pv.v.here ts).at_,pv.ats⟩)):=by show _=_;unfold eL;rw[if_neg an.out,if_neg ao.out,if_neg ap.out]
 have aw:=aG (V.flt_yes HV.ok 5 (pv.v.here ts).at_ (by decide))
 refine(oU m).mono ?_
 rintro e l ⟨⟨b,rfl,B⟩,A⟩
 replace B:=aG B
 replace A:=aG A
 go_wp2_with fail
 rw[C.out]
 exact⟨rfl,b2.below A,.inr ⟨aw.1,b,rfl,by rw[aw.out.2.1,aw.out.2.2];exact B⟩⟩
end
section
theorem LG(s:ByteArray)(w:World)(A:s.size<=700):
  Calls Tryz.prog 36 #[.string s] w fun r w'=>r=.returned (Pt w.heap.size 0)/\w'=w.alloc (.cells #[.string s,aB 0] 155):=by
 have B:¬(700:Int)< s.size:=by omega
 go_in
 go_wp2_with fail
 go_ret
 exact⟨rfl,rfl⟩
theorem Hk{s:ByteArray}{ts:List bB}(M:ga s.data.toList ts)(Y:s.size<=700)(E:aM w a #[Pt c 0,aB 0,.string ⟨#[]⟩,aB 0,aB 0])(J:aM w c #[.string s,aB (0:Nat)])(B:a≠c):
  Calls Tryz.prog 37 #[Pt a 0] w fun r w'=>kq w w' a c s ts (ja ts) 0 r vK:=by
 obtain⟨f,R,Q⟩:=bY M E J
 have j:=E.cell 0
 have K:0< ts.length:=(List.getElem?_eq_some_iff.1 M.first).1
 have N:Hid (V.here ts ⟨0,0,0⟩=fG s.data.toList (fa s.data.toList 0)):=by show _=_;unfold V.here;rw[M.first];rfl
 have L:Hid (ja ts=if(V.here ts ⟨0,0,0⟩).k=120 then V.flt ⟨0,0,0⟩ (V.here ts ⟨0,0,0⟩).e (V.here ts ⟨0,0,0⟩).at_ else⟨0,0,0⟩):=rfl
 have S:=aG (yQ s.data.toList (fa s.data.toList 0))
 clear M E J
 go_in
 go_wp2_with fail
 refine(uZ Q Y (Nat.zero_le _)).mono ?_
 rintro e g ⟨C,⟨D,rfl,F⟩|⟨D,⟨b,rfl,hblk⟩⟩⟩
 ·rw[<-N.out]at D F⊢
  obtain⟨d,X,H,A⟩:=fK D F C (R.only C B)
  have i:=A.cell 0
  have r1:=A.cell 1
  have r2:=A.cell 2
  have r3:=A.cell 3
  have h:=A.fz
  have G:=aG (L.trans (if_neg D))
  clear D F C
  unfold eZ
  go_wp2_with fail
  go_end0
  rw[G.out]
  have O:=(((H.mono (T:=gO a c) (fun _ e=>.inr e)).setCell (p:=Ad a 1) (.inl (.inl rfl)) (aB (fP (V.here ts ⟨0,0,0⟩).k))).setCell (p:=Ad a 2) (.inl (.inl rfl)) (.string ⟨(V.here ts ⟨0,0,0⟩).text.toArray⟩)).setCell (p:=Ad a 3) (.inl (.inl rfl)) (aB (V.here ts ⟨0,0,0⟩).at_)
  exact⟨O,.inl ⟨rfl,⟨((A.set 1 (aB (fP (V.here ts ⟨0,0,0⟩).k)) (by simp)).set 2 (.string ⟨(V.here ts ⟨0,0,0⟩).text.toArray⟩) (by simp)).set 3 (aB (V.here ts ⟨0,0,0⟩).at_) (by simp),((X.setO _ 1 _ (Ne.symm B)).setO _ 2 _ (Ne.symm B)).setO _ 3 _ (Ne.symm B),B,rfl,K,d,f,Y⟩,rfl⟩⟩
 ·rw[<-N.out]at D hblk
  obtain⟨H,W,G,Z⟩:=fK C hblk (L.trans (if_pos D)) (S (by rw[<-N.out];exact D))
  clear D hblk C
  go_wp2_with fail
  rw[G.out]
  rw[<-N.out]at Z
  have P:=V.flt_yes (v:=⟨0,0,0⟩) rfl (V.here ts ⟨0,0,0⟩).e (V.here ts ⟨0,0,0⟩).at_ Z
  exact⟨rfl,H.mono (fun _ e=>.inr e),.inr ⟨P.1,b,rfl,by rw[P.2.1,P.2.2];exact W⟩⟩
inductive gC(w:World):(Nat->Prop)->List Nat->List Pd->Prop
 |nil {P:Nat->Prop}:gC w P [] []
 |cons {P Q R:Nat->Prop} {bs:List Nat} {l:List Pd} {b:Nat} {p:Pd}:ko w Q b p->gC w R bs l->(∀i,Q i->P i/\¬R i)->(∀i,R i->P i)->gC w P (b::bs) (p::l)
theorem gC.keep{w':World}{P P' S:Nat->Prop}(k:aC S w w')(B:∀b,P b->b< w.heap.size/\¬S b/\P' b){l:List Pd}(h:gC w P L l):gC w' P' L l:=by
 induction h generalizing P' with
 |nil=>exact gC.nil
 |cons h1 _ hq hr ih=>exact gC.cons (h1.keep (P':=_) k (fun i A=>⟨(B i (hq i A).1).1,(B i (hq i A).1).2.1,A⟩)) (ih (P':=_) (fun i A=>⟨(B i (hr i A)).1,(B i (hr i A)).2.1,A⟩)) (fun i A=>⟨(B i (hq i A).1).2.2,(hq i A).2⟩) (fun i A=>(B i (hr i A)).2.2)
theorem gC.snoc{P P' Q:Nat->Prop}{l:List Pd}{s:Pd}(h:gC w P L l)(D:ko w Q b s)(B:∀i,P i->P' i/\¬Q i)(C:∀i,Q i->P' i):gC w P' (L++[b]) (l++[s]):=by
 induction L generalizing l P P' with
 |nil=>cases h;exact gC.cons (R:=fun _=>False) D gC.nil (fun i A=>⟨C i A,fun e=>e⟩) (fun i A=>A.elim)
 |cons c L ih=>
  cases h with
  |@cons _ Q' R _ _ _ _ g1 g2 hq hr=>exact gC.cons (R:=fun i=>R i\/Q i) g1 (ih g2 (fun i A=>⟨.inl A,(B i (hr i A)).2⟩) (fun i A=>.inr A)) (fun i A=>⟨(B i (hq i A).1).1,fun e=>e.elim (hq i A).2 (B i (hq i A).1).2⟩) (fun i A=>A.elim (fun e=>(B i (hr i e)).1) (C i))
def Dp(w:World)(P:Nat->Prop)(b:Nat)(l:List Pd):Prop:=∃dv bds,∃Q:Nat->Prop,P b/\aM w b #[dv,bV]/\dL w P 107 1 dv bds.length (fg bds)/\gC w Q bds l/\(∀i,Q i->P i/\i≠b/\dv.ownBlock≠some i)/\dv.ownBlock≠some b
structure RL(w wr:World)(br bw bp:Nat)(s:ByteArray)(ts:List bB)(g:Nat)(l:Value)(acc:List yo)(bds:List Nat)(pv:PV):Prop where
 rv:RV wr br bw s ts pv.v 0
 pb:aM wr bp #[l,bV]
 own:wr.ownsRow (bp+1) 107 1 l bds.length (fg bds)
 rep:gC wr (fun b=>bp< b/\b< wr.heap.size/\l.ownBlock≠some b) bds (acc.map jE)
 kp:Below w.heap.size w wr
 good:Good pv
 fuel:ts.length<=g+pv.v.i
 few:bds.length<=pv.v.i
 eq:cL ts=iJ ts g (acc,pv)
theorem RL.bad{wr:World}{s:ByteArray}{ts:List bB}{g:Nat}{l:Value}{A:List yo}{pv:PV}(h:RL w wr (n+1) n c s ts g l A L pv)(D:cL ts=iJ ts d (fu ts (A,pv)))(E:(fu ts (A,pv)).2=(eL ts pv).2)(B:(eL ts pv).2.v.ok=false)(k:aC (gO (n+1) n) wr.drew u)(G:w.heap.size+2<=wr.heap.size\/True)(F:aM u b #[aB (eL ts pv).2.v.e,aB (eL ts pv).2.v.a])(C:n=w.heap.size){R:Prop}:
  Bw w u/\(((cL ts).2.v.ok=true/\R)\/((cL ts).2.v.ok=false/\dA u (ee b) (cL ts).2.v.e (cL ts).2.v.a)):=by
 have e:(cL ts).2.v=(eL ts pv).2.v:=by
  rw[D,mA (by rw[E,B];rfl),E]
 subst C
 refine⟨aC.to_below ((aC.of_below (S:=fun _=>False) h.kp.drew).trans' k (fun i e=>by rcases e with e|e<;>exact .inr (by omega))),.inr ⟨by rw[e];exact B,b,rfl,by rw[e];exact F⟩⟩
theorem RL.next{wr W:World}{s:ByteArray}{ts:List bB}{E F:Option Addr}{cl:Nat}{A:List yo}{pv:PV}(h:RL w wr (n+1) n a s ts (c+1) (.slice E l.length cl) A l pv)(Y:cL ts=iJ ts c (fu ts (A,pv)))(Z:(fu ts (A,pv)).2=(eL ts pv).2)
  (G:Good (fu ts (A,pv)).2/\dS ts 0 pv.v (fu ts (A,pv)).2.v/\((fu ts (A,pv)).2.v.ok=true->pv.v.i+1<=(fu ts (A,pv)).2.v.i/\(fu ts (A,pv)).1.length<=A.length+1)) (L:(eL ts pv).2.v.ok=true) (k:aC (gO (n+1) n) wr.drew u) (R:RV u (n+1) n s ts (eL ts pv).2.v 0) (J:ko u (dZ wr.drew u) f (jE (eL ts pv).1))
  (D:aC (fun i=>Value.ownBlock (.slice E l.length cl)=some i) u W) (K:W.ownsRow (a+1) 107 1 (.slice F (l.length+1) d) (l.length+1) (fg l++[aF f])) (Q:Value.ownBlock (.slice F (l.length+1) d)=Value.ownBlock (.slice E l.length cl)\/Value.ownBlock (.slice F (l.length+1) d)=some (u.heap.size+1)) (r:n+2<=a) (X:n=w.heap.size):
  RL w (W.setCell ⟨a,0,none⟩ (.slice F (l.length+1) d)) (n+1) n a s ts c (.slice F (l.length+1) d) (fu ts (A,pv)).1 (l++[f]) (fu ts (A,pv)).2:=by
 subst X
 have N:=CM ts (A,pv) (by exact L) h.rv.ok
 have j:=G.2.2 (by rw[Z];exact L)
 have q:wr.heap.size<=u.heap.size:=k.size
 have p:=D.size
 have C:∀i,Value.ownBlock (.slice E l.length cl)=some i->a+1<=i/\i< wr.heap.size:=fun i e=>h.own.lt i e
 have M:∀b,b< u.heap.size->Value.ownBlock (.slice E l.length cl)≠some b->Value.ownBlock (.slice F (l.length+1) d)≠some b:=fun b B t e=>by
  rcases Q with x|x
  ·rw[x]at e;exact t e
  ·rw[x]at e;simp at e;omega
 have g:=h.pb.lt
 have V:aM u a #[.slice E l.length cl,bV]:=(h.pb.below ((Below.refl _ _).drew)).kept k (fun e=>by rcases e with e|e<;>omega)
 have T:=V.kept D (fun e=>by have:=(C _ e).1;omega)
 have H:(W.setCell (Ad a 0) (.slice F (l.length+1) d)).heap.size=W.heap.size:=by simp[World.setCell]
 have P:=(aC.refl (aK a) W).set1 0 (.slice F (l.length+1) d)
 have m:(fu ts (A,pv)).1=A++[(eL ts pv).1]:=by rw[N]
 refine⟨?_,T.set 0 _ (by simp),?_,?_,?_,G.1,by have:=h.fuel;omega,by have:=h.few;simp;omega,Y⟩
 ·rw[Z]
  exact(R.kept D (fun e=>by have:=(C _ e).1;omega) (fun e=>by have:=(C _ e).1;omega)).setO a 0 _ (by omega) (by omega)
 ·rw[nP]
  have:=bZ (b:=a) K 0 (.slice F (l.length+1) d) (by omega)
  simpa using this
 ·rw[m,List.map_append]
  have a1:gC u (fun b=>a< b/\b< wr.heap.size/\Value.ownBlock (.slice E l.length cl)≠some b) l (A.map jE):=(h.rep.keep (P':=fun b=>a< b/\b< wr.heap.size/\Value.ownBlock (.slice E l.length cl)≠some b) ((aC.refl (fun _=>False) wr).drew) (fun b B=>⟨B.2.1,fun e=>e,B⟩)).keep k (fun b B=>⟨B.2.1,fun e=>by have:=B.1;rcases e with e|e<;>omega,B⟩)
  have a2:gC W (fun b=>a< b/\b< wr.heap.size/\Value.ownBlock (.slice E l.length cl)≠some b) l (A.map jE):=a1.keep D (fun b B=>⟨by omega,B.2.2,B⟩)
  have z:=a2.keep (P':=fun b=>a< b/\b< wr.heap.size/\Value.ownBlock (.slice E l.length cl)≠some b) P (fun b B=>⟨by omega,fun e=>by have:b=a:=e;have:=B.1;omega,B⟩)
  have O:ko W (dZ wr.drew u) f (jE (eL ts pv).1):=J.keep D (fun b B=>by
   have o:wr.heap.size<=b:=B.1
   exact⟨B.2,fun e=>by have:=(C b e).2;omega,B⟩)
  have y:=O.keep (P':=dZ wr.drew u) P (fun b B=>by
   have o:wr.heap.size<=b:=B.1
   have O:=B.2
   exact⟨by omega,fun e=>by have:b=a:=e;omega,B⟩)
  refine z.snoc y (fun b B=>⟨⟨B.1,by rw[H];omega,M b (by omega) B.2.2⟩,fun e=>by have m:wr.heap.size<=b:=e.1;omega⟩) (fun b B=>?_)
  have o:wr.heap.size<=b:=B.1
  have O:=B.2
  exact⟨by omega,by rw[H];omega,M b O (fun e=>by have:=(C b e).2;omega)⟩
 ·exact aC.to_below ((((aC.of_below (S:=fun _=>False) h.kp.drew).trans' k (fun i e=>by rcases e with e|e<;>exact .inr (by omega))).trans' D (fun i e=>.inr (by have:=(C i e).1;omega))).trans' P (fun i e=>.inr (by have:i=a:=e;omega)))
theorem RV.isEnd{s:ByteArray}{ts:List bB}{v:V}(h:RV w a b s ts v c):((fP (v.here ts).k:Int)!=0)= !((v.here ts).k==36):=by
 rcases h.kinds with e|e|e|e|e<;>rw[e]<;>rfl
theorem JW{s:ByteArray}{ts:List bB}(w:World)(j:ga s.data.toList ts)(hs:s.size<=700):
  Calls Tryz.prog 23 #[.string s] w fun r w'=>Bw w w'/\(((cL ts).2.v.ok=true/\∃bp,r=.returned (aF bp)/\Dp w' (dZ w w') bp ((cL ts).1.map jE))\/((cL ts).2.v.ok=false/\dA w' r (cL ts).2.v.e (cL ts).2.v.a)):=by
 obtain⟨i0,hi,t,q,p⟩:=info_parts tT
 have HT:=aG j
 have a7:0< ts.length:=(List.getElem?_eq_some_iff.1 j.first).1
 have h7:ts.length<=701:=by have:=j.len;rw[dt]at this;omega
 have Y:Hid (cL ts=iJ ts ts.length ([],⟨ja ts,[]⟩)):=rfl
 clear j
 go_in
 go_wp2_with fail
 refine(LG s w hs).mono ?_
 rintro e w0 ⟨rfl,x⟩
 subst x
 go_wp2_with fail
 have z:Hid (aM ((w.alloc (.cells #[.string s,aB 0] 155)).alloc (.cells #[Pt w.heap.size 0,aB 0,.string ⟨#[]⟩,aB 0,aB 0] 102)) w.heap.size #[.string s,aB (0:Nat)]):=(aM.new w #[.string s,aB 0] 155).alloc _
 have a4:Hid (aM ((w.alloc (.cells #[.string s,aB 0] 155)).alloc (.cells #[Pt w.heap.size 0,aB 0,.string ⟨#[]⟩,aB 0,aB 0] 102)) (w.heap.size+1) #[Pt w.heap.size 0,aB 0,.string ⟨#[]⟩,aB 0,aB 0]):=aM.newAt _ _ _ _ (by simp)
 have a5:Hid (Bw w ((w.alloc (.cells #[.string s,aB 0] 155)).alloc (.cells #[Pt w.heap.size 0,aB 0,.string ⟨#[]⟩,aB 0,aB 0] 102))):=(ba _ _).alloc (by simp) _
 refine(Hk HT.out hs a4.out z.out (by omega)).mono ?_
 rintro e J ⟨E,hx⟩
 have W:Hid (w.heap.size+2<=J.heap.size):=by show _<=_;have:=E.size;simpa using this
 have d:Hid (Bw w J):=aC.to_below ((aC.of_below (S:=fun _=>False) a5.out).trans' E (fun i e=>by rcases e with e|e;exact .inr (by omega);exact .inr (by omega)))
 clear E
 rcases hx with⟨n,V,rfl⟩|⟨n,b,rfl,V⟩
 case inr=>
  have HO:Hid ((ja ts).ok=false/\aM J b #[aB (ja ts).e,aB (ja ts).a]):=⟨n,V⟩
  clear n V
  go_wp2_with fail
  have e:cL ts=([],⟨ja ts,[]⟩):=by rw[Y.out];exact mA (s:=([],⟨ja ts,[]⟩)) (by simp[HO.out.1])
  rw[e]
  exact⟨rfl,d.out,.inr ⟨HO.out.1,b,rfl,HO.out.2⟩⟩
 case inl=>
 have a1:=aG V
 clear n V
 have X:Hid (RL w (J.alloc (.cells #[bV,bV] 106)) (w.heap.size+1) w.heap.size J.heap.size s ts ts.length bV [] [] ⟨ja ts,[]⟩):=
  ⟨a1.out.below (ba _ _),aM.new _ _ _,World.ownsRow_nil _ _ _ _,gC.nil,d.out.alloc (by have:=W.out;omega) _,fun _=>Nat.zero_le _,by omega,Nat.zero_le _,Y.out⟩
 go_wp2_with fail
 go_loopg [] ts.length (fun g wr=>∃l H F pv,Hid (RL w wr (w.heap.size+1) w.heap.size J.heap.size s ts g l H F pv))
 case atStart=>exact⟨bV,[],[],_,X⟩
 case round=>
  obtain⟨l,H,F,pv,A⟩:=hrel
  have c1:=A.out.rv.rb.cell 1
  have ag:Ce wr (w.heap.size+1) (1+0) (aB (fP (pv.v.here ts).k)):=A.out.rv.rb.cell 1
  have T:=A.out.rv.isEnd
  have a9:=A.out.few
  have a8:=A.out.rv.lt
  obtain⟨h,cl,rfl⟩:=aI A.out.own
  have R:=W.out
  have hz:=A.out.pb.lt
  cases E:((pv.v.here ts).k==36)
  ·rw[E]at T
   have ah:=aG E
   have af:=A.out.fuel
   obtain⟨y,rfl⟩:∃y,gk=y+1:=⟨gk-1,by omega⟩
   obtain⟨O,a3⟩:=aN (A.out.eq.trans (Ag (s:=(H,pv)) (by simp[A.out.rv.ok,E]))) (gB.decl HT.out (H,pv) A.out.good A.out.rv.lt)
   have q0:Ce wr J.heap.size 0 (.slice h F.length cl):=A.out.pb.cell 0
   have qf:=A.out.pb.fz
   clear E
   go_wp2_with fail
   obtain⟨f,a0⟩:=aN (Fu ts (H,pv)) (A.out.rv.below ((Below.refl _ _).drew))
   have a2:Hid (∀i,gO (w.heap.size+1) w.heap.size i->i< J.heap.size+1):=fun i e=>by rcases e with e|e<;>omega
   go_region_law (first|(refine iB rfl ?_;go_wp2_with fail;refine(JY a0.out A.out.good).mono ?_;rintro e o m;cases B:(eL ts pv).2.v.ok;(focus(obtain⟨C,b,rfl,P⟩:=m.bad B;replace C:=aG C;replace P:=aG P;replace B:=aG B;clear m;go_wp2_with fail;exact⟨rfl,A.out.bad O.out f.out B.out C.out (.inr trivial) P.out rfl⟩));(obtain⟨C,Q,bd,rfl,L⟩:=m.good B;have c:=aG (dw (gS A.out.own) C a2.out);have N:=aG ((A.out.pb.below ((Below.refl _ _).drew)).kept C (fun e=>by rcases e with e|e<;>omega));have ae:Ce o J.heap.size 0 (.slice h F.length cl):=N.out.cell 0;have ac:=N.out.fz;have aa:=N.out.lt;have a6:=C.size;replace C:=aG C;replace Q:=aG Q;replace L:=aG L;replace B:=aG B;clear m))|(refine bD rfl (.tmp 23) (.tmp 26) 103 rfl (J.heap.size+1) 107 i0 (.pointer none) 1 8 Tryz.underlying103 hi t q p rfl (by decide) _ _ _ (by simp[Act.eval,Act.put]) (c.out.alloc _) (Ad o.heap.size 0) 1 1 [aF bd] (by simp[Act.eval,Act.put]) rfl (cF _ _ _ _ (by simp)) (by intro u hu;simp at hu;subst hu;rfl) (by decide) (by unfold maxLen;omega) (by omega) (by simp;omega) ?_;intro l3 w3 D G K;obtain⟨p3,c3,rfl⟩:=aI D;have M:=aC.grown ((aC.refl (fun k=>Value.ownBlock (.slice h F.length cl)=some k) o).alloc (.cells #[aF bd] 107)) G (fun k E=>.inl E);have Z:=aG (N.out.kept M (fun e=>by have:=(c.out.lt _ e).1;omega));have ad:Ce w3 J.heap.size 0 (.slice h F.length cl):=Z.out.cell 0;have ab:=Z.out.fz;replace M:=aG M;replace D:=aG D;replace K:=aG K;clear G))
   all_goals
    have HN:=aG (A.out.next O.out f.out a3.out B.out C.out Q.out L.out M.out (by simpa using D.out) (by simpa using K.out) R rfl)
    go_wp2_with fail
    go_roundg y
    case measure=>omega
    case rel=>exact⟨_,_,_,_,HN⟩
  ·rw[E]at T
   have O:=aG (A.out.eq.trans (mA (s:=(H,pv)) (by simp[E])))
   clear E
   go_wp2_with fail
   go_ret
   rw[O.out]
   refine⟨A.out.kp,.inl ⟨A.out.rv.ok,J.heap.size,rfl,_,F,_,⟨by omega,hz⟩,A.out.pb,⟨cU A.out.own (Nat.zero_le _),fun k E=>⟨by have:=(A.out.own.lt k E).1;omega,(A.out.own.lt k E).2⟩⟩,A.out.rep,fun b P=>⟨⟨by have:=P.1;omega,P.2.1⟩,by have:=P.1;omega,P.2.2⟩,fun e=>by have:=(A.out.own.lt _ e).1;omega⟩⟩
end
section
theorem CV(v:Value)(w:World):Sem.run Tryz.prog (Instr.typeAssert (.iface 93 v) 20 93 true) w=.ok (.tuple #[v,.bool true]) w:=by kernel_rfl
theorem IH(p:Addr)(b:Nat)(x:Value)(w:World)(D:w.cell? p=some x)(B:w.frozen? p=false):
  CallsD Tryz.prog 35 #[.pointer (some p)] (.panicking [{v:=.iface 93 (Pt b 0),recovered:=false}]) w fun e A w'=>
   e=.returned (.tuple #[])/\A=.panicking [{v:=.iface 93 (Pt b 0),recovered:=true}]/\w'=w.setCell p (.iface 93 (Pt b 0)):=by
 refine callsD_of_wpS Tryz.func35 rfl fun E F C=>?_
 apply wpS_seq
 apply wpS_region
 simp[wpOpsS,go_sem,recoverD,C,Tryz.ntmps35,Exit.thenS]
 apply wpS_seq
 apply wpS_seq
 apply wpS_region
 simp[wpOpsS,go_sem,Exit.thenS]
 refine wpS_cond (t:=false) (by simp[Act.eval,Array.replicate]) ?_
 simp only[Bool.false_eq_true,if_false]
 refine wpS_of_wp (wp_skip ?_)
 simp only[Exit.thenS]
 apply wpS_seq
 apply wpS_region
 simp[wpOpsS,go_sem,Exit.thenS,Array.replicate,CV]
 apply wpS_seq
 apply wpS_seq
 apply wpS_region
 simp[wpOpsS,go_sem,Exit.thenS]
 refine wpS_cond (t:=false) (by simp[Act.eval]) ?_
 simp only[Bool.false_eq_true,if_false]
 refine wpS_of_wp (wp_skip ?_)
 simp only[Exit.thenS]
 apply wpS_region
 simp[wpOpsS,go_sem,D,B,bodyPostS,results,Tryz.results35]
theorem Aj(p:Addr)(w:World):
  CallsD Tryz.prog 35 #[.pointer (some p)] .returning w fun e A w'=>e=.returned (.tuple #[])/\A=.returning/\w'=w:=by
 refine callsD_of_wpS Tryz.func35 rfl fun C D B=>?_
 apply wpS_seq
 apply wpS_region
 simp[wpOpsS,go_sem,recoverD,B,Tryz.ntmps35,Exit.thenS]
 apply wpS_seq
 apply wpS_seq
 apply wpS_region
 simp[wpOpsS,go_sem,Exit.thenS]
 refine wpS_cond (t:=true) (by simp[Act.eval,Array.replicate]) ?_
 simp only[if_true]
 refine wpS_of_wp (wp_ret ?_)
 cases C
 simp_all [Exit.thenS,bodyPostS,results,Tryz.results35]
theorem Ak{S:Nat->Prop}(K:¬S w.heap.size){G:Nat}{cap:Array Value}{Rok:World->Prop}{Rbad:Nat->World->Prop}(Q:∀(args:Array Value) (w:World),(callFunc G args).run Tryz.prog w=.ok (.enter G args) w)
  (L:Ca G cap (w.alloc (.cells #[.nilIface] 37)) fun e w'=>aC S (w.alloc (.cells #[.nilIface] 37)) w'/\((e=.returned (.tuple #[])/\Rok w')\/∃b,e=ee b/\Rbad b w')):
  Ca 21 #[.func (.func G) #[] cap] w fun e w'=>∃B,aC S (w.alloc (.cells #[.nilIface] 37)) B/\((e=.returned .nilIface/\Rok B/\w'=B.setCell ⟨w.heap.size,0,none⟩ .nilIface)\/∃b,e=.returned (.iface 93 (Pt b 0))/\Rbad b B/\w'=B.setCell ⟨w.heap.size,0,none⟩ (.iface 93 (.pointer (some ⟨b,0,none⟩)))):=by
 have P:∀(M:Fn) (first cap:Array Value) (w:World),(Instr.makeFunc M first cap).run Tryz.prog w=.ok (.func M first cap) w:=fun _ _ _ _=>rfl
 have R:=aG L
 clear L
 go_enter_defers Tryz.func21,Tryz.ntmps21
 go_wp2_with fail
 refine R.mono ?_
 rintro e B ⟨C,⟨rfl,D⟩|⟨b,rfl,D⟩⟩
 ·have J:=aG C
  have H:=aG D
  have A:=(aM.new w #[.nilIface] 37).kept C K
  have E:Ce B w.heap.size 0 .nilIface:=A.cell 0
  have N:=A.fz
  clear C D A
  go_wp2_with fail
  refine leaves_cons (f:=35) (args:=#[Pt w.heap.size 0]) (by simp) (by simp[go_sem]) ?_
  refine(Aj (Ad w.heap.size 0) _).mono ?_
  rintro e O F ⟨rfl,rfl,rfl⟩
  refine⟨.nilIface,by simp[results,Tryz.results21,go_sem,E],B,J,.inl ⟨rfl,H,rfl⟩⟩
 ·have J:=aG C
  have H:=aG D
  have A:=(aM.new w #[.nilIface] 37).kept C K
  have E:Ce B w.heap.size 0 .nilIface:=A.cell 0
  have N:B.frozen? (Ad w.heap.size 0)=false:=A.fz 0
  clear C D A
  go_wp2_with fail
  refine leaves_cons (f:=35) (args:=#[Pt w.heap.size 0]) (by simp) (by simp[go_sem]) ?_
  refine(IH (Ad w.heap.size 0) b _ _ E N).mono ?_
  rintro e O F ⟨rfl,rfl,rfl⟩
  refine⟨.iface 93 (Pt b 0),by simp[results,Tryz.results21,go_sem,E],B,J,.inr ⟨b,rfl,H,rfl⟩⟩
end
def su(v:Value):Option (DataW Unit×List MemPlace):=match v with
 |.agg cs=>match cs.toList with
  |[.int .i64 a,.int .i64 b]=>some (.agg [.lit (.int .i64 a),.lit (.int .i64 b)],[])
  |_=>none
 |_=>none
def eW(x:Nat×Nat):Value:=.agg #[.int .i64 x.1,.int .i64 x.2]
theorem rx(x:Nat×Nat):su (eW x)=some (.agg [.lit (.int .i64 x.1),.lit (.int .i64 x.2)],[]):=rfl
theorem pk{x:Nat×Nat}{A:List MemPlace}(h:su v=some (.agg [.lit (.int .i64 x.1),.lit (.int .i64 x.2)],A)):v=eW x:=by
 unfold su at h
 split at h
 ·rename_i C
  split at h
  ·rename_i a b B
   simp at h
   obtain⟨⟨rfl,rfl⟩,_⟩:=h
   unfold eW
   congr 1
   exact Array.toList_inj.1 (by rw[B])
  ·cases h
 ·cases h
theorem pq:Keyed Tryz.prog 9:=string_keyed Tryz.underlying9
theorem za(w:World):(zeroValue 163).run Tryz.prog w=.ok (eW (0,0)) w:=by kernel_rfl
theorem sD(s:ByteArray)(A:s.size<=1000000):keyOf Tryz.prog 9 (.string s)=some (.string s.data.toList):=WideMaps.keyOf_string_mk Tryz.underlying9 (by unfold maxLen;omega)
theorem sC{s t:aJ}(h:s≠t):Lit.string s≠Lit.string t:=fun e=>h (by cases e;rfl)
def ei(w:World)(b n:Nat)(f:aJ->Option (Nat×Nat)):Prop:=∃D:DataW Unit,w.ownsMap Tryz.prog 9 su b n D/\(∀s,has D (.string s)=(f s).isSome)/\∀s x,f s=some x->∀z,D.atKey (.string s) z=.agg [.lit (.int .i64 x.1),.lit (.int .i64 x.2)]
theorem ei.made(w:World):ei (w.alloc (.map #[] 0)) w.heap.size 0 (fun _=>none):=⟨.map [],World.ownsMap_made w _ _ _,fun _=>rfl,fun _ _ h=>by cases h⟩
theorem ei.look{f:aJ->Option (Nat×Nat)}(h:ei w b n f)(s:ByteArray)(F:s.size<=1000000):
  (Instr.lookup 110 (.map (some b)) (.string s) true).run Tryz.prog w=.ok (.tuple #[eW ((f s.data.toList).getD (0,0)),.bool (f s.data.toList).isSome]) w:=by
 obtain⟨D,J,E,H⟩:=h
 obtain⟨v,K,A,B⟩:=J.look_ok pq Tryz.underlying110 (za w) (rx (0,0)) (sD s F)
 rw[A,E]
 cases C:f s.data.toList with
 |none=>
  have G:has D (.string s.data.toList)=false:=by rw[E,C];rfl
  rw[atKey_of_not_has G]at B
  have:v=eW (0,0):=pk (x:=(0,0)) B
  rw[this];rfl
 |some x=>
  rw[H _ x C]at B
  rw[pk B];rfl
theorem ei.store{f:aJ->Option (Nat×Nat)}(h:ei w b n f)(s:ByteArray)(E:s.size<=1000000)(K:n<=1000000)(x:Nat×Nat):
  ∃w',(Instr.mapUpdate 110 (.map (some b)) (.string s) (eW x)).run Tryz.prog w=.ok () w'/\ei w' b (n+1) (fun t=>if t=s.data.toList then some x else f t)/\w.mapTurned w' b:=by
 obtain⟨D,C,J,H⟩:=h
 obtain⟨w',A,G,F⟩:=C.store pq Tryz.underlying110 (by unfold maxLen;omega) (sD s E) (rx x)
 refine⟨w',A,⟨_,G,fun t=>?_,fun t y B z=>?_⟩,F⟩
 ·by_cases e:t=s.data.toList
  ·subst e;rw[has_put_same (k:=.string s.data.toList) C.isMap (show WideAt.IsKeyLit (.string _)from trivial)];simp
  ·rw[has_put_other (sC e),J];simp[e]
 ·by_cases e:t=s.data.toList
  ·subst e;simp at B;subst B;exact atKey_put_same C.isMap (show WideAt.IsKeyLit (.string _)from trivial) _ _
  ·rw[atKey_put_other (sC e)];simp[e]at B;exact H t y B z
def dK(f:aJ->Option (Nat×Nat))(t:aJ)(kind:Nat):Option Nat:=match f t with
 |some (k,n)=>if k=kind then some n else none
 |none=>none
theorem pL{bn kind:Nat}{f:aJ->Option (Nat×Nat)}(t:ByteArray)(E:t.size<=1000000)(H:w.cell? (Ad bn 1)=some (.map (some a)))(D:ei w a n f)(C:dK f t.data.toList kind=none):
  Calls Tryz.prog 64 #[Pt bn 0,.string t,aB kind] w (Rt w (.tuple #[aB 0,.bool false])):=by
 have A:=D.look t E
 cases B:f t.data.toList with
 |none=>
  rw[B]at A
  simp only[Option.getD_none,Option.isSome_none]at A
  clear D B C
  unfold eW at A
  go_in
  go_wp2_with fail
  refine bodyPost_ret (v:=.tuple #[aB 0,.bool false]) (by simp[results,Tryz.results64,go_sem]) rfl ⟨rfl,ba _ _⟩
 |some x=>
  obtain⟨k,m⟩:=x
  have G:¬k=kind:=fun e=>by unfold dK at C;rw[B]at C;simp[e]at C
  have F:((k:Int)!=(kind:Int))=true:=by rw[bne_iff_ne];omega
  rw[B]at A
  simp only[Option.getD_some,Option.isSome_some]at A
  clear D B C G
  unfold eW at A
  go_in
  go_wp2_with fail
  refine bodyPost_ret (v:=.tuple #[aB 0,.bool false]) (by simp[results,Tryz.results64,go_sem]) rfl ⟨rfl,ba _ _⟩
theorem nQ{bn kind:Nat}{f:aJ->Option (Nat×Nat)}(t:ByteArray)(E:t.size<=1000000)(G:w.cell? (Ad bn 1)=some (.map (some a)))(D:ei w a n f)(A:dK f t.data.toList kind=some m):
  Calls Tryz.prog 64 #[Pt bn 0,.string t,aB kind] w (Rt w (.tuple #[aB m,.bool true])):=by
 have C:=D.look t E
 unfold dK at A
 cases B:f t.data.toList with
 |none=>rw[B]at A;cases A
 |some x=>
  obtain⟨k,F⟩:=x
  rw[B]at A
  simp only at A
  split at A
  ·rename_i e
   cases A
   subst e
   rw[B]at C
   simp only[Option.getD_some,Option.isSome_some]at C
   clear D B
   unfold eW at C
   go_in
   go_wp2_with fail
   refine bodyPost_ret (v:=.tuple #[aB m,.bool true]) (by simp[results,Tryz.results64,go_sem]) rfl ⟨rfl,ba _ _⟩
  ·cases A
def eP(w:World)(b c:Nat)(f:aJ->Option Nat):Prop:=∃D:DataW Unit,w.ownsMap Tryz.prog 9 (plainElem Tryz.prog 3) b c D/\Maps.size D=c/\(∀s,has D (.string s)=(f s).isSome)/\∀s x,f s=some x->∀z,D.atKey (.string s) z=.lit (.int .i64 x)
theorem DA(w:World):(zeroValue 3).run Tryz.prog w=.ok (aB 0) w:=by kernel_rfl
theorem eP.made(w:World):eP (w.alloc (.map #[] 0)) w.heap.size 0 (fun _=>none):=⟨.map [],World.ownsMap_made w _ _ _,rfl,fun _=>rfl,fun _ _ h=>by cases h⟩
theorem eP.look{f:aJ->Option Nat}(h:eP w b c f)(s:ByteArray)(F:s.size<=1000000):
  (Instr.lookup 123 (.map (some b)) (.string s) true).run Tryz.prog w=.ok (.tuple #[aB ((f s.data.toList).getD 0:Nat),.bool (f s.data.toList).isSome]) w:=by
 obtain⟨D,J,_,E,H⟩:=h
 obtain⟨v,K,A,B⟩:=J.look_ok pq Tryz.underlying123 (DA w) (plainElem_int Tryz.underlying3 (by decide)) (sD s F)
 rw[A,E]
 cases C:f s.data.toList with
 |none=>
  have G:has D (.string s.data.toList)=false:=by rw[E,C];rfl
  rw[atKey_of_not_has G]at B
  obtain⟨a,rfl,e,_⟩:=plainElem_int_inv Tryz.underlying3 B
  cases e;rfl
 |some x=>
  rw[H _ x C]at B
  obtain⟨a,rfl,e,_⟩:=plainElem_int_inv Tryz.underlying3 B
  cases e;rfl
theorem eP.len{f:aJ->Option Nat}(h:eP w b c f)(ty:TypeId):(Builtin.len_ #[123] ty #[.map (some b)]).run Tryz.prog w=.ok (aB c) w:=by
 obtain⟨D,A,B,_,_⟩:=h
 rw[A.len Tryz.underlying123,B]
theorem eP.add{f:aJ->Option Nat}(h:eP w b c f)(s:ByteArray)(F:s.size<=1000000)(N:c<=1000000)(G:f s.data.toList=none)(x:Nat)(M:x<=1000000):
  ∃w',(Instr.mapUpdate 123 (.map (some b)) (.string s) (aB x)).run Tryz.prog w=.ok () w'/\eP w' b (c+1) (fun t=>if t=s.data.toList then some x else f t)/\w.mapTurned w' b:=by
 obtain⟨D,C,L,E,K⟩:=h
 obtain⟨w',A,J,H⟩:=C.store pq Tryz.underlying123 (by unfold maxLen;omega) (sD s F) (plainElem_int Tryz.underlying3 (show(Lit.int .i64 (x:Int)).wf=true from WalkArith.wf_i64 (by omega)))
 refine⟨w',A,⟨_,J,?_,fun t=>?_,fun t y B z=>?_⟩,H⟩
 ·rw[size_put (C.tidy pq),if_neg (by rw[E,G];simp),L]
 ·by_cases e:t=s.data.toList
  ·subst e;rw[has_put_same (k:=.string s.data.toList) C.isMap (show WideAt.IsKeyLit (.string _)from trivial)];simp
  ·rw[has_put_other (sC e),E];simp[e]
 ·by_cases e:t=s.data.toList
  ·subst e;simp at B;subst B;exact atKey_put_same C.isMap (show WideAt.IsKeyLit (.string _)from trivial) _ _
  ·rw[atKey_put_other (sC e)];simp[e]at B;exact K t y B z
structure NM(w:World)(bn bm n:Nat)(f:aJ->Option (Nat×Nat)):Prop where
 c1:w.cell? ⟨bn,1,none⟩=some (.map (some bm))
 th:ei w bm n f
structure kr(w:World)(b o:Nat)(t:ByteArray)(a:Nat):Prop where
 t0:w.cell? ⟨b,o,none⟩=some (.string t)
 t1:w.cell? ⟨b,o+1,none⟩=some (.int .i64 a)
 t2:∃m:Nat,w.cell? ⟨b,o+2,none⟩=some (.int .i64 m)
 fz:w.frozen? ⟨b,o+2,none⟩=false
 sz:t.size<=1000000
theorem vo{bn:Nat}{f:aJ->Option (Nat×Nat)}{t:ByteArray}(B:NM w bn c n f)(h:kr w b o t a)(C:dK f t.data.toList 0=none):
  Calls Tryz.prog 131 #[Pt bn 0,Pt b o] w (Rt w (.bool false)):=by
 obtain⟨D,F⟩:=aN B C
 have H:=h.t0
 have E:=h.sz
 clear B C h
 go_in
 go_wp2_with fail
 refine(pL (kind:=0) t E D.c1 D.th F).mono ?_
 rintro e G ⟨rfl,A⟩
 replace A:=aG A
 go_wp2_with fail
 go_ret
 exact⟨rfl,A⟩
theorem rQ{bn:Nat}{f:aJ->Option (Nat×Nat)}{t:ByteArray}(D:NM w bn c n f)(h:kr w b o t a)(E:dK f t.data.toList 0=some m):
  Calls Tryz.prog 131 #[Pt bn 0,Pt b o] w fun r w'=>r=.returned (.bool true)/\∃A,Bw w A/\w'=A.setCell ⟨b,o+2,none⟩ (.int .i64 m):=by
 obtain⟨F,K,G⟩:=bY D E h
 have N:=h.t0
 have J:=h.sz
 clear D E h
 go_in
 go_wp2_with fail
 refine(nQ (kind:=0) t J F.c1 F.th K).mono ?_
 rintro e A ⟨rfl,B⟩
 obtain⟨H,C⟩:=G.t2
 have M:A.cell? (Ad b (o+2))=some (aB H):=by rw[B.cell (aD C)];exact C
 have L:A.frozen? (Ad b (o+2))=false:=by rw[B.frozen (aD C)];exact G.fz
 clear C
 replace B:=aG B
 go_wp2_with fail
 go_ret
 exact⟨rfl,_,B,rfl⟩
theorem vh{bn kind:Nat}{f:aJ->Option (Nat×Nat)}{t:ByteArray}(E:NM w bn c n f)(h:kr w b o t a)(F:dK f t.data.toList kind=none):
  Calls Tryz.prog 133 #[Pt bn 0,Pt b o,aB kind] w fun r w'=>dA w' r 9 a/\Bw w w':=by
 obtain⟨G,L,H⟩:=bY E F h
 have O:=h.t0
 have J:=h.sz
 clear E F h
 go_in
 go_wp2_with fail
 refine(pL (kind:=kind) t J G.c1 G.th L).mono ?_
 rintro e D ⟨rfl,A⟩
 have N:D.cell? (Ad b (o+1))=some (aB a):=by rw[A.cell (aD H.out.t1)];exact H.t1
 replace A:=aG A
 go_wp2_with fail
 refine(cO 9 a D).mono ?_
 rintro e M ⟨⟨K,rfl,C⟩,B⟩
 replace C:=aG C
 replace B:=aG B
 go_wp2_with fail
 exact⟨rfl,⟨K,rfl,C⟩,A.trans (B.mono A.size)⟩
theorem rM{bn kind:Nat}{f:aJ->Option (Nat×Nat)}{t:ByteArray}(D:NM w bn c n f)(h:kr w b o t a)(E:dK f t.data.toList kind=some m):
  Calls Tryz.prog 133 #[Pt bn 0,Pt b o,aB kind] w fun r w'=>r=.returned (.tuple #[])/\∃B,Bw w B/\w'=B.setCell ⟨b,o+2,none⟩ (.int .i64 m):=by
 obtain⟨F,K,G⟩:=bY D E h
 have N:=h.t0
 have J:=h.sz
 clear D E h
 go_in
 go_wp2_with fail
 refine(nQ (kind:=kind) t J F.c1 F.th K).mono ?_
 rintro e B ⟨rfl,A⟩
 obtain⟨H,C⟩:=G.t2
 have M:B.cell? (Ad b (o+2))=some (aB H):=by rw[A.cell (aD C)];exact C
 have L:B.frozen? (Ad b (o+2))=false:=by rw[A.frozen (aD C)];exact G.fz
 clear C
 replace A:=aG A
 go_wp2_with fail
 go_end0
 first|exact⟨rfl,_,A,rfl⟩|exact⟨_,rfl,A,rfl⟩
theorem ei.move{w':World}{f:aJ->Option (Nat×Nat)}(h:ei w b n f)(e:w'.heap[b]?=w.heap[b]?):ei w' b n f:=by
 obtain⟨D,⟨E,F,C,B⟩,A⟩:=h
 exact⟨D,⟨E,F,by rw[e];exact C,B⟩,A⟩
theorem eP.move{w':World}{f:aJ->Option Nat}(h:eP w b c f)(e:w'.heap[b]?=w.heap[b]?):eP w' b c f:=by
 obtain⟨D,⟨E,F,C,B⟩,A⟩:=h
 exact⟨D,⟨E,F,by rw[e];exact C,B⟩,A⟩
theorem ei.lt{f:aJ->Option (Nat×Nat)}(h:ei w b n f):b< w.heap.size:=by obtain⟨D,A,_⟩:=h;exact A.lt
theorem eP.lt{f:aJ->Option Nat}(h:eP w b c f):b< w.heap.size:=by obtain⟨D,A,_⟩:=h;exact A.lt
theorem ei.kept{S:Nat->Prop}{w':World}{f:aJ->Option (Nat×Nat)}(h:ei w b n f)(k:aC S w w')(A:¬S b):ei w' b n f:=h.move (k.block b h.lt A)
theorem eP.kept{S:Nat->Prop}{w':World}{f:aJ->Option Nat}(h:eP w b c f)(k:aC S w w')(A:¬S b):eP w' b c f:=h.move (k.block b h.lt A)
abbrev AX(x:Nat×Nat):Obj:=.cells #[.int .i64 x.1,.int .i64 x.2] 163
theorem pT{bn:Nat}{f:aJ->Option (Nat×Nat)}{t:ByteArray}{x:Nat×Nat}(B:NM w bn c n f)(h:kr w b o t a)(F:f t.data.toList=some x):
  Calls Tryz.prog 132 #[Pt bn 0,Pt d 0,Pt b o] w fun r w'=>dA w' r 9 a/\Bw w w':=by
 have C:=(B.th.move (w':=w.drew) rfl).look t h.sz
 have A:=((B.th.kept (aC.of_below (S:=fun _=>False) (ba _ (.cells #[aB 0,aB 0] 163))) (fun e=>e)).move (w':=(w.alloc (.cells #[aB 0,aB 0] 163)).drew) rfl).look t h.sz
 rw[F]at C A
 simp only[Option.getD_some,Option.isSome_some]at C A
 unfold eW at C A
 have H:bn< w.heap.size:=aD (a:=(Ad bn 1)) B.c1
 have G:=h.t0
 have M:=h.t1
 have O:=B.c1
 have N:b< w.heap.size:=aD G
 clear B h F
 go_in
 go_wp2_with fail
 go_region
 all_goals
  go_wp2_with fail
  refine(cO 9 a _).mono ?_
  rintro e L ⟨⟨K,rfl,E⟩,D⟩
  replace E:=aG E
  replace D:=aG D
  go_wp2_with fail
  refine⟨rfl,⟨K,rfl,E⟩,?_⟩
  have J:=((Below.refl w.heap.size w).alloc (Nat.le_refl _) (AX x)).drew
  exact J.trans (D.mono (by simp))
abbrev me(w:World):World:=(w.alloc (.cells #[.int .i64 0,.int .i64 0] 163)).drew.drew
theorem zL{bn i:Nat}{f:aJ->Option (Nat×Nat)}{g:aJ->Option Nat}{t:ByteArray}(A:NM w bn d n f)(h:kr w b o t a)(F:f t.data.toList=none)(J:w.cell? (Ad i 1)=some (.map (some j)))(E:eP w j c g)(hg:g t.data.toList=some m):
  Calls Tryz.prog 132 #[Pt bn 0,Pt i 0,Pt b o] w fun r w'=>r=.returned (.tuple #[])/\w'=me (w.setCell ⟨b,o+2,none⟩ (.int .i64 m)):=by
 have D:=(A.th.move (w':=w.drew) rfl).look t h.sz
 have B:=aC.of_below (S:=fun _=>False) ((Below.refl w.heap.size w).alloc (Nat.le_refl _) (.cells #[aB 0,aB 0] 163))
 have C:=((A.th.kept B (fun e=>e)).move (w':=(w.alloc (.cells #[aB 0,aB 0] 163)).drew) rfl).look t h.sz
 have G:=((E.kept B (fun e=>e)).move (w':=(w.alloc (.cells #[aB 0,aB 0] 163)).drew.drew) rfl).look t h.sz
 rw[F]at D C
 rw[hg]at G
 simp only[Option.getD_none,Option.isSome_none,Option.getD_some,Option.isSome_some]at D C G
 unfold eW at D C
 have K:bn< w.heap.size:=aD (a:=(Ad bn 1)) A.c1
 have L:i< w.heap.size:=aD (a:=(Ad i 1)) J
 have H:=h.t0
 have O:=h.t1
 obtain⟨P,N⟩:=h.t2
 have M:=h.fz
 have R:=A.c1
 have Q:b< w.heap.size:=aD H
 clear A h F E hg B
 go_in
 go_wp2_with fail
 go_region
 all_goals
  go_wp2_with fail
  go_region
  all_goals
   go_wp2_with fail
   go_end0
   exact⟨rfl,rfl⟩
theorem xr{bn i:Nat}{f:aJ->Option (Nat×Nat)}{g:aJ->Option Nat}{t:ByteArray}(A:NM w bn c n f)(h:kr w b o t a)(H:f t.data.toList=none)(L:w.cell? (Ad d 1)=some (.map (some i)))(C:eP w i 6 g)(hg:g t.data.toList=none):
  Calls Tryz.prog 132 #[Pt bn 0,Pt d 0,Pt b o] w fun r w'=>dA w' r 8 a/\Bw w w':=by
 have G:=(A.th.move (w':=w.drew) rfl).look t h.sz
 have B:=aC.of_below (S:=fun _=>False) ((Below.refl w.heap.size w).alloc (Nat.le_refl _) (.cells #[aB 0,aB 0] 163))
 have F:=((A.th.kept B (fun e=>e)).move (w':=(w.alloc (.cells #[aB 0,aB 0] 163)).drew) rfl).look t h.sz
 have J:=((C.kept B (fun e=>e)).move (w':=(w.alloc (.cells #[aB 0,aB 0] 163)).drew.drew) rfl).look t h.sz
 have V:=((C.kept B (fun e=>e)).move (w':=(w.alloc (.cells #[aB 0,aB 0] 163)).drew.drew) rfl).len 3
 rw[H]at G F
 rw[hg]at J
 simp only[Option.getD_none,Option.isSome_none]at G F J
 unfold eW at G F
 have M:bn< w.heap.size:=aD (a:=(Ad bn 1)) A.c1
 have N:d< w.heap.size:=aD (a:=(Ad d 1)) L
 have K:=h.t0
 have R:=h.t1
 have W:=A.c1
 have T:b< w.heap.size:=aD K
 clear A h H C hg B
 go_in
 go_wp2_with fail
 go_region
 all_goals
  go_wp2_with fail
  go_region
  all_goals
   go_wp2_with fail
   refine(cO 8 a _).mono ?_
   rintro e Q ⟨⟨P,rfl,E⟩,D⟩
   replace E:=aG E
   replace D:=aG D
   go_wp2_with fail
   refine⟨rfl,⟨P,rfl,E⟩,?_⟩
   have O:=((Below.refl w.heap.size w).alloc (Nat.le_refl _) (.cells #[aB 0,aB 0] 163)).drew.drew
   exact O.trans (D.mono (by simp))
theorem zM{bn:Nat}{f:aJ->Option (Nat×Nat)}{g:aJ->Option Nat}{t:ByteArray}(C:NM w bn d n f)(h:kr w b o t a)(P:f t.data.toList=none)(Z:w.cell? (Ad j 1)=some (.map (some m)))(E:eP w m c g)(hg:g t.data.toList=none)(Y:c<=5):
  Calls Tryz.prog 132 #[Pt bn 0,Pt j 0,Pt b o] w fun r w'=>r=.returned (.tuple #[])/\∃H,eP H m (c+1) (fun s=>if s=t.data.toList then some c else g s)/\(me w).drew.mapTurned H m/\w'=H.setCell ⟨b,o+2,none⟩ (.int .i64 c):=by
 have N:=(C.th.move (w':=w.drew) rfl).look t h.sz
 have B:=aC.of_below (S:=fun _=>False) ((Below.refl w.heap.size w).alloc (Nat.le_refl _) (.cells #[aB 0,aB 0] 163))
 have M:=((C.th.kept B (fun e=>e)).move (w':=(w.alloc (.cells #[aB 0,aB 0] 163)).drew) rfl).look t h.sz
 have R:=((E.kept B (fun e=>e)).move (w':=(w.alloc (.cells #[aB 0,aB 0] 163)).drew.drew) rfl).look t h.sz
 have e4:=((E.kept B (fun e=>e)).move (w':=(w.alloc (.cells #[aB 0,aB 0] 163)).drew.drew) rfl).len 3
 obtain⟨G,z,L,A⟩:=((E.kept B (fun e=>e)).move (w':=(w.alloc (.cells #[aB 0,aB 0] 163)).drew.drew.drew) rfl).add t h.sz (by omega) hg c (by omega)
 rw[P]at N M
 rw[hg]at R
 simp only[Option.getD_none,Option.isSome_none]at N M R
 unfold eW at N M
 have l:bn< w.heap.size:=aD (a:=(Ad bn 1)) C.c1
 have q:j< w.heap.size:=aD (a:=(Ad j 1)) Z
 have J:=h.t0
 have x:=h.t1
 have c1:=C.c1
 have Q:b< w.heap.size:=aD J
 have X:((c:Int)==6)=false:=by rw[beq_eq_false_iff_ne];omega
 have F:b≠m:=fun e=>by
  subst e
  obtain⟨D,⟨y,ck,V,_⟩,_⟩:=E
  rw[World.cell?]at J
  simp[V]at J
 obtain⟨T,O⟩:=h.t2
 have K:aC (fun i=>i=m) w G:=((((aC.refl (fun i=>i=m) w).alloc (.cells #[aB 0,aB 0] 163)).drew.drew).drew).grown A.grown (fun k W=>by cases W;exact .inl rfl)
 have v:G.cell? (Ad b (o+2))=some (aB T):=by rw[K.cell (p:=Ad b (o+2)) Q F];exact O
 have u:G.frozen? (Ad b (o+2))=false:=by rw[K.frozen (p:=Ad b (o+2)) Q F];exact h.fz
 replace L:=aG L
 replace A:=aG A
 clear C h P E hg B K O
 go_in
 go_wp2_with fail
 go_region
 all_goals
  go_wp2_with fail
  go_region
  all_goals
   go_wp2_with fail
   go_region
   all_goals
    go_wp2_with fail
    go_end0
    exact⟨rfl,G,L,A,rfl⟩
theorem gZ{kind op:Nat}(F:w.cell? (Ad a 2)=some (aB kind))(E:w.cell? (Ad a 6)=some (aB op)):
  Calls Tryz.prog 130 #[Pt a 0] w (Ru w (.bool (kind==1&&op==0))):=by
 cases A:(kind==1)
 ·have C:((kind:Int)==1)=false:=by rw[beq_eq_false_iff_ne];have:=beq_eq_false_iff_ne.1 A;omega
  clear A
  go_in
  go_wp2_with fail
  go_ret
  exact⟨rfl,rfl⟩
 ·have C:((kind:Int)==1)=true:=by rw[beq_iff_eq];have:=beq_iff_eq.1 A;omega
  have D:((op:Int)==0)=(op==0):=by rw[Bool.eq_iff_iff];simp
  generalize(op==0)=B at *
  clear A
  go_in
  go_wp2_with fail
  go_ret
  exact⟨by cases B<;>rfl,rfl⟩
end Go.Proofs.YtajfbbldaiaolaaGreatDoor
