import Derived.Test.YtajfbbldaiaolaaGreatDoorQ14
set_option linter.unusedSimpArgs false
set_option linter.unusedVariables false
set_option maxRecDepth 100000
set_option maxHeartbeats 4000000
namespace Go.Proofs.YtajfbbldaiaolaaGreatDoor
open Go.RowKit Go.Shelf
structure Fl where
 main:Nat:=0
 mutexes:Nat:=0
 begins:List Int:=[]
 stmts:List Fs:=[]
structure nH(w:World)(bF:Nat)(y:Fl):Prop where
 ex:∃gv sv,aM w bF #[gv,.int .i64 y.main,.int .i64 y.mutexes,sv]/\w.ownsRow 0 3 1 gv y.begins.length (y.begins.map (Value.int .i64))/\yl w sv y.stmts
namespace Fl
def sp(y:Fl)(f:Nat):Nat:=if y.begins.getD f 0=-1 then y.stmts.length+f else(y.begins.getD f 0).toNat
def endS(f:Nat):Fs:={p:={kind:=12},fn:=f}
def r1(y:Fl)(k:Nat):Rp:={main:=y.main,mutexes:=y.mutexes,begins:=(List.range k).map y.sp,stmts:=y.stmts++(List.range k).map endS,ends:=y.stmts.length}
def r2(y:Fl)(j:Nat):Rp:={y.r1 y.begins.length with starts:=(List.range j).filter (fun i=>(y.stmts.getD i {}).p.kind==7)}
def r3(y:Fl)(S:Nat):Rp:={y.r2 y.stmts.length with spots:=S}
def r4(y:Fl)(S t:Nat):Rp:={y.r3 S with twice:=t}
def r5(y:Fl)(S t:Nat)(rs:List Nat):Rp:={y.r4 S t with runs:=rs}
def r6(y:Fl)(S t:Nat)(rs bl:List Nat):Rp:={y.r5 S t rs with below:=bl}
end Fl
structure Dq(y:Fl)(S ent t:Nat)(rs bl:List Nat):Prop where
 n:0< y.stmts.length
 len:y.begins.length<=5
 bg:∀f,f< y.begins.length->y.begins.getD f 0=-1\/(0<=y.begins.getD f 0/\y.begins.getD f 0<=48)
 main:y.main< y.begins.length
 ok:ft (y.r2 y.stmts.length)
 re:dD (y.r2 y.stmts.length).comeOf 70 (aW (y.sp y.main)) (aW (y.sp y.main))=some S
 cm:∀s,s< (y.r2 y.stmts.length).stmts.length->((y.r2 y.stmts.length).isCall s||(y.r2 y.stmts.length).isStart s)=true->((y.r2 y.stmts.length).st s).p.nn< y.begins.length
 sp:cP (y.r3 S)
 ag:mE (y.r3 S)
 ente:(y.r3 S).enteredO (y.r3 S).againS=some ent
 tw:(y.r3 S).twiceOf ent=t
 wh:vJ (y.r4 S t)
 rn:(y.r4 S t).runsL=rs
 bw:FX (y.r5 S t rs)
 bl:(y.r5 S t rs).belowL=bl
 sl:(y.r2 y.stmts.length).starts.length< 60
theorem Fl.sp_lt{y:Fl}{S a t:Nat}{rs l:List Nat}(h:Dq y S a t rs l){f:Nat}(A:f< y.begins.length):y.sp f< 64:=by
 have E:=h.bg f A
 have D:=h.ok.ends
 have C:=h.len
 have B:(y.r2 y.stmts.length).ends=y.stmts.length:=rfl
 unfold Fl.sp
 split<;>omega
theorem Fl.r1_zero(y:Fl):y.r1 0={main:=y.main,mutexes:=y.mutexes,begins:=[],stmts:=y.stmts,ends:=y.stmts.length}:=by simp[Fl.r1]
theorem Fl.r1_succ(y:Fl)(k:Nat):y.r1 (k+1)={(y.r1 k)with begins:=(y.r1 k).begins++[y.sp k],stmts:=(y.r1 k).stmts++[Fl.endS k]}:=by simp[Fl.r1,List.range_succ]
theorem Fl.r1_spot(y:Fl)(k:Nat):(y.r1 k).spot k (y.begins.getD k 0)=y.sp k:=rfl
structure Mi(w wr:World)(bR k:Nat)(y:Fl):Prop where
 ex:∃bv sv bs,jy wr w.heap.size bR (y.r1 k) bv sv (.slice none 0 0) (.slice none 0 0) (.slice none 0 0) bs
 kp:Below w.heap.size w wr
 le:k<=y.begins.length
theorem Fl.r2_yes{y:Fl}{j:Nat}(h:(y.stmts.getD j {}).p.kind=7):y.r2 (j+1)={(y.r2 j)with starts:=(y.r2 j).starts++[j]}:=by
 simp only[Fl.r2,List.range_succ,List.filter_append]
 congr 1
 simp
 rw[<-List.getD_eq_getElem?_getD]
 exact h
theorem Fl.r2_no{y:Fl}{j:Nat}(h:(y.stmts.getD j {}).p.kind≠7):y.r2 (j+1)=y.r2 j:=by
 have e:[j].filter (fun i=>(y.stmts.getD i {}).p.kind==7)=[]:=by
  rw[List.filter_cons_of_neg (by simpa using h)]
  rfl
 simp only[Fl.r2,List.range_succ,List.filter_append,e,List.append_nil]
structure KZ(w wr:World)(bR j:Nat)(y:Fl):Prop where
 ex:∃bv sv tv bs,jy wr w.heap.size bR (y.r2 j) bv sv tv (.slice none 0 0) (.slice none 0 0) bs
 kp:Below w.heap.size w wr
 le:j<=y.stmts.length
theorem MA{w:World}{c S d t:Nat}{rs L:List Nat}{y:Fl}(h:nH w c y)(ok:Dq y S d t rs L)(hg:0< w.heap.size)(hT:Tz w):
  Calls Tryz.prog 96 #[aF c] w fun r w'=>∃B,r=.returned (aF B)/\cA w' B (y.r6 S t rs L)/\Bw w w':=by
 obtain⟨i0,hi,ca,c9,c8⟩:=info_parts lu
 obtain⟨i1,hj,be,bd,b9⟩:=info_parts qS
 obtain⟨gv,sv,h1,h2,h3⟩:=h.ex
 obtain⟨bs,g1,g2,g3⟩:=h3.ex
 obtain⟨pb,cb,rfl⟩:=aI h2
 have hn:=ok.n
 obtain⟨gs,cs,rfl⟩:=aO g2 (by omega)
 have c0:w.cell? (Ad c 0)=some (.slice pb y.begins.length cb):=h1.cell 0
 have c1:w.cell? (Ad c 1)=some (aB y.main):=h1.cell 1
 have c2:w.cell? (Ad c 2)=some (aB y.mutexes):=h1.cell 2
 have c3:w.cell? (Ad c 3)=some (.slice (some (Ad gs 0)) y.stmts.length cs):=h1.cell 3
 have hF:=h1.lt
 have au:y.stmts.length<=48:=ok.ok.ends
 obtain⟨d4,bt,br,b3,A,HT⟩:=vp (GW (w:=w.drew) g2 hn (by omega) (CA _)) g2 g3 h2 ok hT
 clear h h1 h2 h3 g2 g3 ok hT
 go_in
 go_wp2_with fail
 go_region_held3 (fun w'=>w'.cell? (Ad c 1)=some (aB y.main)/\w'.cell? (Ad c 2)=some (aB y.mutexes)/\w'.cell? (Ad c 3)=some (.slice (some (Ad gs 0)) y.stmts.length cs)) (first|exact⟨e1,e2,e3⟩|exact⟨c1,c2,c3⟩|go_keep) (first|(go_at_call 134;refine d4.mono ?_;rintro q w1 ⟨v1,rfl,ay,a8⟩;obtain⟨p1,k1,rfl⟩:=aI ay;have cx:=aG ay;have a3:=aG a8;have e1:w1.cell? (Ad c 1)=some (aB y.main):=bc a8 c1;have e2:w1.cell? (Ad c 2)=some (aB y.mutexes):=bc a8 c2;have e3:w1.cell? (Ad c 3)=some (.slice (some (Ad gs 0)) y.stmts.length cs):=bc a8 c3;clear ay a8))
 obtain⟨B,a1⟩:=bM w1.heap.size
 obtain⟨W1,m⟩:=bM (w1.alloc (.cells #[aB y.main,aB y.mutexes,.slice none 0 0,.slice p1 y.stmts.length k1,.slice none 0 0,aH 0,aH 0,.slice none 0 0,.slice none 0 0,aB y.stmts.length] 288))
 have a4:Bw w W1:=by
  rw[m]
  have hb:Bw w w1:=⟨a3.os,a3.tape,a3.output,a3.size,a3.block⟩
  exact hb.alloc hb.size _
 have cz:=aG a4
 have cp:Hid (jy W1 w.heap.size B (y.r1 0) (.slice none 0 0) (.slice p1 y.stmts.length k1) (.slice none 0 0) (.slice none 0 0) (.slice none 0 0) bs):=by
  show jy _ _ _ _ _ _ _ _ _ _
  rw[Fl.r1_zero]
  refine⟨by rw[m,a1];exact heap_alloc_new w1 _,by rw[a1];exact a3.size,World.ownsRow_nil _ _ _ _,g1,by rw[m];exact cx.alloc _,?_,World.ownsRow_nil _ _ _ _,World.ownsRow_nil _ _ _ _,World.ownsRow_nil _ _ _ _,fun i e=>by cases e⟩
  intro k b s hb hs
  obtain⟨sr,sb,q1,q2⟩:=br k b s hb hs
  exact⟨sr,sb,.inl ⟨q1.lt,q1.below a4⟩,aP q2 a4⟩
 have dc:B< W1.heap.size:=by rw[m,a1];simp
 have d0:W1.cell? (Ad c 0)=some (.slice pb y.begins.length cb):=bc a4 c0
 rw[<-m,<-a1]
 obtain⟨dh,dg⟩:=aN m a1
 clear m a1 a4 e1 e2 e3
 go_wp2_with fail
 clear d0
 go_loopw [34] (fun i wr=>∃k:Nat,i=aB k/\Hid (Mi w wr B k y)) (fun i _=>y.begins.length-(intOf i).toNat)
 case atStart=>exact⟨0,rfl,⟨_,_,_,cp⟩,cz,Nat.zero_le _⟩
 case round=>
  obtain⟨k,rfl,N⟩:=hrel
  have ch:=N.le
  by_cases hk:k=y.begins.length
  ·have b7:¬((k:Int)< (y.begins.length:Int)):=by omega
   have d1:Hid (KZ w wr B 0 y):=by
    obtain⟨bv,sv,K,H⟩:=N.ex
    rw[hk]at H
    exact⟨⟨bv,sv,_,K,H⟩,N.kp,Nat.zero_le _⟩
   have d3:wr.cell? (Ad c 3)=some (.slice (some (Ad gs 0)) y.stmts.length cs):=bc N.kp c3
   have cn:c< wr.heap.size:=Nat.lt_of_lt_of_le hF N.kp.size
   clear hk ch
   go_wp2_with fail
   clear d3 cn b7 N
   rename World=>wo
   go_loopw [72] (fun i wr=>∃k:Nat,i=aB k/\Hid (KZ w wr B k y)) (fun i _=>y.stmts.length-(intOf i).toNat)
   case atStart=>exact⟨0,rfl,d1⟩
   case round=>
    obtain⟨j,rfl,N⟩:=hrel
    have cj:=N.le
    by_cases hk:j=y.stmts.length
    ·have ci:¬((j:Int)< (y.stmts.length:Int)):=by omega
     obtain⟨bv,sv,tv,K,H⟩:=N.ex
     rw[hk]at H
     obtain⟨x2,O⟩:=bM (y.r2 y.stmts.length)
     have a6:x2.begins.length=y.begins.length:=by rw[O];simp[Fl.r2,Fl.r1]
     have af:=A.main
     have b6:x2.begins[y.main]?=some (y.sp y.main):=by rw[O];simp[Fl.r2,Fl.r1,af]
     obtain⟨G,o,e⟩:=aO H.b (by rw[<-O,a6];omega)
     subst e
     have q2:wr.cell? (Ad B 2)=some (.slice (some (Ad G 0)) y.begins.length o):=by rw[<-a6,O];exact(aA H.hd).cell 2
     have q0:wr.cell? (Ad B 0)=some (aB y.main):=(aA H.hd).cell 0
     have qb:wr.cell? (Ad G y.main)=some (aB (y.sp y.main:Nat)):=by
      rw[H.b.cellAt _ (by rw[<-O,a6];omega),<-O]
      simp[dG,b6]
     have c7:wr.cell? (Ad G (y.main*1))=some (aB (y.sp y.main:Nat)):=by rw[Nat.mul_one];exact qb
     have cg:G≠B:=by
      intro e'
      subst e'
      rcases H.b.2 with⟨e,_⟩|⟨g,cap,df,e,_,hh,_⟩
      ·cases e
      ·cases e
       rw[H.hd]at hh
       cases hh
     have da:((y.main:Int)< (y.begins.length:Int)):=by omega
     have bk:B< wr.heap.size:=(aA H.hd).lt
     obtain⟨cw,HB,HX⟩:=bY (jK (y.sp y.main) (Fl.sp_lt A af)) N.kp H
     have cu:Hid (∀W,Bw wr W->Ca 136 #[aH (aW (y.sp y.main):Nat),.func (.func 138) #[Pt B 0] #[]] W (Rt W (aH S))):=fun W kk=>by
      have cc:=HX.keep kk
      have a0:=HB.trans (kk.mono HB.size)
      refine rH (aW (y.sp y.main)) S (by rw[sn (Fl.sp_lt A.out af)];exact Nat.pow_lt_pow_right (by decide) (Fl.sp_lt A af)) (y.r2 y.stmts.length).comeOf 138 #[Pt B 0] #[] W (Nat.lt_of_lt_of_le hg a0.size) (HT.below a0) ⟨70,A.re⟩ (fun s W' hs bf k'=>?_) qC
      have au:s< (y.r2 y.stmts.length).stmts.length:=A.sp.mem s hs bf
      refine JT (cc.keep k').at A.ok au (fun hc=>?_)
      have h5:=A.cm s au hc
      refine⟨by rw[<-O,a6];rw[<-O]at h5;exact h5,?_⟩
      have h6:=Fl.sp_lt A h5
      generalize((y.r2 y.stmts.length).st s).p.nn=nn at *
      have:(y.r2 y.stmts.length).begins.getD nn 0=y.sp nn:=by simp[Fl.r2,Fl.r1,h5]
      rw[this]
      exact h6
     have v:=aG O
     clear H b6 a6 hk cj O N
     go_wp2_with fail
     go_region_held3 (fun w'=>w'.cell? (Ad B 2)=some (.slice (some (Ad G 0)) y.begins.length o)/\w'.cell? (Ad B 0)=some (aB y.main)/\w'.cell? (Ad G y.main)=some (aB (y.sp y.main:Nat))) (first|exact⟨s2,s0,sb⟩|exact⟨e2,e0,eb⟩|exact⟨q2,q0,qb⟩|go_keep) (first|(go_at_call 137;refine(cw _).mono ?_;rintro q wq ⟨rfl,hq⟩;subst wq)|(go_at_call 136;refine(cu _ (Below.refl _ wr).drew).mono ?_;rintro q w2 ⟨rfl,a2⟩;have T:Bw wr w2:=⟨a2.os,a2.tape,a2.output,a2.size,a2.block⟩;have bz:=aG T;have V:=aG (HX.keep T);have e2:w2.cell? (Ad B 2)=some (.slice (some (Ad G 0)) y.begins.length o):=bc T q2;have e0:w2.cell? (Ad B 0)=some (aB y.main):=bc T q0;have eb:w2.cell? (Ad G y.main)=some (aB (y.sp y.main:Nat)):=bc T qb;have f5:w2.frozen? (Ad B 5)=false:=(aA V.hd).fz 5;have e5:w2.cell? (Ad B 5)=some (aH ((y.r2 y.stmts.length).spots:Nat)):=(aA V.hd).cell 5;have l5:B< w2.heap.size:=(aA V.hd).lt;have s0:(w2.setCell (Ad B 5) (aH (S:Nat))).cell? (Ad B 0)=some (aB y.main):=(aA (V.spots (n:=S)).hd).cell 0;have s2:(w2.setCell (Ad B 5) (aH (S:Nat))).cell? (Ad B 2)=some (.slice (some (Ad G 0)) y.begins.length o):=((aA (V.spots (n:=S)).hd).cell 2).trans (((aA V.hd).cell 2).symm.trans e2);have sb:(w2.setCell (Ad B 5) (aH (S:Nat))).cell? (Ad G y.main)=some (aB (y.sp y.main:Nat)):=(World.cell?_of_block (a:=(Ad G y.main)) (Below.heap_setCell _ _ _ _ cg)).trans eb;clear a2 T))
     all_goals
      obtain⟨W3,ak⟩:=bM (w2.setCell (Ad B 5) (aH (S:Nat)))
      have b2:Hid (jy W3 w.heap.size B (y.r3 S) (.slice (some (Ad G 0)) (y.r2 y.stmts.length).begins.length o) sv tv (.slice none 0 0) (.slice none 0 0) K):=by rw[ak];exact V.spots
      have bj:Bw w W3:=by rw[ak];exact(HB.trans (bz.mono HB.size)).setCell (p:=Ad B 5) V.bb _
      rw[<-ak]
      have an:=aG bj
      clear ak bj s0 s2 sb e0 e2 eb e5 f5 l5 q0 q2 qb c7 V bz
      have aq:=uN b2.at ⟨A.ok.ends,A.ok.len,A.ok.st⟩ A.sp A.ag (Nat.lt_of_lt_of_le hg an.size) (HT.below an) (by have:=A.len;show(y.r2 y.stmts.length).begins.length< 64;simp[Fl.r2,Fl.r1];omega) (by have:=A.sl;exact Nat.lt_of_lt_of_le this (by decide)) A.ente
      rw[A.out.tw]at aq
      have bo:=aG aq
      clear aq
      go_wp2_with fail
      refine bo.mono ?_
      rintro q E ⟨rfl,b1⟩
      have ad:=aG (b2.keep b1)
      have bi:=an.trans (b1.mono an.size)
      have f6:E.frozen? (Ad B 6)=false:=(aA ad.hd).fz 6
      have e6:E.cell? (Ad B 6)=some (aH ((y.r3 S).twice:Nat)):=(aA ad.hd).cell 6
      obtain⟨M,Z⟩:=bM (E.setCell (Ad B 6) (aH (t:Nat)))
      have J:Hid (jy M w.heap.size B (y.r4 S t) (.slice (some (Ad G 0)) (y.r2 y.stmts.length).begins.length o) sv tv (.slice none 0 0) (.slice none 0 0) K):=by rw[Z];exact ad.twice
      have aj:Bw w M:=by rw[Z];exact bi.setCell (p:=Ad B 6) ad.bb _
      have av:=JO J.at ⟨A.ok.ends,A.ok.len,A.ok.st⟩ ⟨A.sp.lt,A.sp.mem⟩ ⟨A.ag.ag,A.ag.st⟩ A.wh (Nat.lt_of_lt_of_le hg aj.size) (HT.below aj) (by have:=A.sl;exact Nat.lt_of_lt_of_le this (by decide))
      rw[A.out.rn]at av
      have bp:=aG av
      clear av
      obtain⟨b5,bn⟩:=aN aj Z
      clear Z aj bi b1 b2 ad bo
      go_wp2_with fail
      rw[<-bn.out]
      refine bp.mono ?_
      rintro q w6 ⟨v7,rfl,ax,b0⟩
      obtain⟨p7,k7,rfl⟩:=aI ax
      have F:=aG (J.keep b0)
      have bh:=b5.trans (b0.mono b5.size)
      have f7:w6.frozen? (Ad B 7)=false:=(aA F.hd).fz 7
      have e7:w6.cell? (Ad B 7)=some (.slice none 0 0):=(aA F.hd).cell 7
      obtain⟨W7,Y⟩:=bM (w6.setCell (Ad B 7) (.slice p7 ((y.r4 S t).starts.length+1) k7))
      have ac:Hid (jy W7 w.heap.size B (y.r5 S t rs) (.slice (some (Ad G 0)) (y.r2 y.stmts.length).begins.length o) sv tv (.slice p7 ((y.r4 S t).starts.length+1) k7) (.slice none 0 0) K):=by
       rw[Y]
       have e:rs.length=(y.r4 S t).starts.length+1:=by rw[<-A.out.rn];simp[Rp.runsL]
       exact F.setRuns (l:=rs) (by rw[e];exact dP ax _ b5.size)
      have ai:Bw w W7:=by rw[Y];exact bh.setCell (p:=Ad B 7) F.bb _
      have a0:=GX ac.at ⟨A.ok.ends,A.ok.len,A.ok.st⟩ ⟨A.sp.lt,A.sp.mem⟩ ⟨A.ag.ag,A.ag.st⟩ A.bw (Nat.lt_of_lt_of_le hg ai.size) (HT.below ai)
      rw[A.out.bl]at a0
      have bu:=aG a0
      clear a0
      obtain⟨b4,al⟩:=aN ai Y
      clear Y ai bh b0 J F bp ax
      go_wp2_with fail
      rw[<-al.out]
      refine bu.mono ?_
      rintro q w8 ⟨v9,rfl,aw,a7⟩
      obtain⟨p9,k9,rfl⟩:=aI aw
      have ab:=aG (ac.keep a7)
      have ap:=b4.trans (a7.mono b4.size)
      have f8:w8.frozen? (Ad B 8)=false:=(aA ab.hd).fz 8
      have e8:w8.cell? (Ad B 8)=some (.slice none 0 0):=(aA ab.hd).cell 8
      have bm:Hid (cA (w8.setCell (Ad B 8) (.slice p9 (y.r5 S t rs).starts.length k9)) B (y.r6 S t rs L)/\Bw w (w8.setCell (Ad B 8) (.slice p9 (y.r5 S t rs).starts.length k9))):=by
       have e:L.length=(y.r5 S t rs).starts.length:=by rw[<-A.out.bl];simp[Rp.belowL]
       exact⟨(ab.setBelow (l:=L) (by rw[e];exact dP aw _ b4.size)).at,ap.setCell (p:=Ad B 8) ab.bb _⟩
      clear ap a7 ac ab bu aw
      go_wp2_with fail
      go_ret
      exact⟨B,rfl,bm.1,bm.2⟩
    ·have ck:j< y.stmts.length:=by omega
     have ci:((j:Int)< (y.stmts.length:Int)):=by omega
     clear hk
     obtain⟨bv,sv,tv,K,H⟩:=N.ex
     obtain⟨pt,ct,rfl⟩:=aI H.t
     obtain⟨b,hb⟩:∃b,bs[j]?=some b:=⟨_,List.getElem?_eq_getElem (by omega)⟩
     have ae:y.stmts[j]?=some (y.stmts.getD j {}):=by rw[List.getD_eq_getElem?_getD,List.getElem?_eq_getElem ck];rfl
     obtain⟨st,ar⟩:=bM (y.stmts.getD j {})
     rw[<-ar]at ae
     have hz:(bs.zip y.stmts)[j]?=some (b,st):=by rw[List.getElem?_zip_eq_some];exact⟨hb,ae⟩
     have cl:=(bt.lt gs rfl).2
     have a5:∀i,i< 4->wr.cell? (Ad gs (j*4+i))=(ui (b,st))[i]?:=fun i hi=>by
      rw[N.out.kp.cell (p:=Ad gs (j*4+i)) cl,bt.out.cellAt (g:=gs) (j*4+i) (by omega),tE _ j _ hz i hi]
     have z0:wr.cell? (Ad gs (j*4))=some (aF b):=a5 0 (by decide)
     have z1:wr.cell? (Ad gs (j*4+1))=some (aB st.fn):=a5 1 (by decide)
     have z2:wr.cell? (Ad gs (j*4+2))=some (aB st.nx):=a5 2 (by decide)
     have z3:wr.cell? (Ad gs (j*4+3))=some (aB st.ins):=a5 3 (by decide)
     obtain⟨sr,sb,P,-⟩:=br j b st hb ae
     have ah:=P.lt
     have d2:wr.cell? (Ad b 2)=some (aB st.p.kind):=bc N.kp (P.cell 2)
     have d7:b< wr.heap.size:=Nat.lt_of_lt_of_le ah N.kp.size
     have q4:wr.cell? (Ad B 4)=some (.slice pt (y.r2 j).starts.length ct):=(aA H.hd).cell 4
     have bk:B< wr.heap.size:=(aA H.hd).lt
     obtain⟨HX,am⟩:=aN H ar
     clear H ar P a5 hz ae hb
     by_cases h7:st.p.kind=7
     ·have co:((st.p.kind:Int)==7)=true:=by rw[beq_iff_eq];omega
      have HL:Hid ((y.r2 j).starts.length<=48):=by
       show _<=_
       have:(y.r2 j).starts.length<=j:=by
        show(List.filter _ (List.range j)).length<=j
        have:=List.length_filter_le (fun i=>(y.stmts.getD i {}).p.kind==7) (List.range j)
        simpa using this
       omega
      obtain⟨W7,Y⟩:=bM (wr.alloc (.cells #[aF b,aB st.fn,aB st.nx,aB st.ins] 253))
      have al:=aG Y
      have k7:Bw wr W7:=by rw[Y];exact ba wr _
      obtain⟨F,cy⟩:=aN (HX.keep k7) k7
      clear Y k7
      have c4:Hid (∀Q E,E.ownsRow w.heap.size 175 1 Q ((y.r2 j).starts.length+1) (dG (y.r2 j).starts++[aB (j:Nat)])->(W7.alloc (.cells #[aB (j:Nat)] 175)).grownBy E (Value.slice pt (y.r2 j).starts.length ct).ownBlock->(Q.ownBlock=(Value.slice pt (y.r2 j).starts.length ct).ownBlock\/Q.ownBlock=some (W7.alloc (.cells #[aB (j:Nat)] 175)).heap.size)->E.cell? (Ad B 4)=some (.slice pt (y.r2 j).starts.length ct)/\E.frozen? (Ad B 4)=false/\B< E.heap.size/\Hid (KZ w (E.setCell (Ad B 4) Q) B (j+1) y)):=fun Q E ho z cf=>by
       have kb:Bw W7 (W7.alloc (.cells #[aB (j:Nat)] 175)):=ba W7 _
       have X:=F.keep kb
       have k4:eH (fun t=>t=175) w.heap.size W7 E:=(eH.of_below kb F.base_le).trans (eH.grown X.t z rfl X.base_le)
       have L:=aA (k4.typ _ _ _ _ (by decide) F.hd)
       have cd:=F.start kb z cf ho
       refine⟨L.cell 4,L.fz 4,L.lt,⟨⟨bv,sv,Q,K,?_⟩,(N.kp.trans (cy.mono N.kp.size)).trans (k4.bel.setCell (p:=Ad B 4) F.bb _),by omega⟩⟩
       rw[Fl.r2_yes (by rw[<-am.out];exact h7)]
       exact cd
      go_wp2_with (at_builtin;rw[<-al.out];refine bE rfl _ _ 283 rfl w.heap.size 175 i1 (aB 0) 1 8 Tryz.underlying283 hj be bd b9 rfl (by decide) _ _ _ rfl (F.t.alloc _) (Ad W7.heap.size 0) 1 1 [aB (j:Nat)] (by simp[Act.eval,al.out]) rfl (cF _ _ _ _ (by simp)) (by intro u hu;simp at hu;subst hu;rfl) (by decide) (by have:=HL.out;unfold maxLen;omega) (by have:=HL.out;omega) (by have:=F.base_le;simp;omega) ?_;intro Q E C D R;obtain⟨p4,k4,rfl⟩:=aI C;obtain⟨e4,f4,l4,ac⟩:=c4 _ _ C D R;clear C D R)
      go_roundw
      case rel=>exact⟨j+1,by go_num,ac⟩
      case measure=>simp[intOf];omega
     ·have co:((st.p.kind:Int)==7)=false:=by rw[beq_eq_false_iff_ne];omega
      have HN:Hid (KZ w (wr.alloc (.cells #[aF b,aB st.fn,aB st.nx,aB st.ins] 253)) B (j+1) y):=by
       refine⟨⟨bv,sv,.slice pt (y.r2 j).starts.length ct,K,?_⟩,N.kp.alloc N.kp.size _,by omega⟩
       rw[Fl.r2_no (by rw[<-am.out];exact h7)]
       exact HX.keep (ba wr _)
      clear h7
      go_wp2_with fail
      go_roundw
      case rel=>exact⟨j+1,by go_num,HN⟩
      case measure=>simp[intOf];omega
  ·have b8:k< y.begins.length:=by omega
   have b7:((k:Int)< (y.begins.length:Int)):=by omega
   clear hk
   obtain⟨bv,sv,K,H⟩:=N.ex
   obtain⟨pv,cv,rfl⟩:=aI H.b
   obtain⟨ps,aa,rfl⟩:=aI H.s
   obtain⟨gb,rfl⟩:∃gb,pb=some (Ad gb 0):=by
    obtain⟨g,c',e⟩:=aO b3 (by omega)
    cases e;exact⟨g,rfl⟩
   have hp:=A.bg k b8
   have cr:Hid (Ca 135 #[aF B,aB k,aB (y.begins.getD k 0)] wr.drew fun r w'=>r=.returned (aB (y.sp k:Nat))/\w'=wr.drew):=by
    have:=A.len
    have:=BA (w:=wr.drew) (x:=y.r1 k) (H.keep (W':=wr.drew) ⟨rfl,rfl,rfl,Nat.le_refl _,fun _ _=>rfl⟩).at k (y.begins.getD k 0) (by omega) (by omega) (by show y.stmts.length<=1000;omega)
    rw[Fl.r1_spot]at this
    exact this
   have az:wr.cell? (Ad gb k)=some (aB (y.begins.getD k 0)):=by
    rw[N.out.kp.cell (p:=Ad gb k) (b3.out.lt gb rfl).2,b3.out.cellAt _ (by omega)]
    simp[b8]
   have c6:wr.cell? (Ad gb (k*1))=some (aB (y.begins.getD k 0)):=by rw[Nat.mul_one];exact az
   generalize y.begins.getD k 0=pl at *
   have q2:wr.cell? (Ad B 2)=some (.slice pv (y.r1 k).begins.length cv):=(aA H.hd).cell 2
   have bk:B< wr.heap.size:=(aA H.hd).lt
   have HX:=aG H
   clear H
   have ah:(y.r1 k).begins.length=k:=by simp[Fl.r1]
   have bx:=aG ah
   clear ah
   have db:k<=5:=by have:=A.len;omega
   have d5:Hid (∀Q E,E.ownsRow w.heap.size 175 1 Q ((y.r1 k).begins.length+1) (dG (y.r1 k).begins++[aB (y.sp k:Nat)])->(wr.drew.alloc (.cells #[aB (y.sp k:Nat)] 175)).grownBy E (Value.slice pv (y.r1 k).begins.length cv).ownBlock->E.cell? (Ad B 2)=some (.slice pv (y.r1 k).begins.length cv)/\E.frozen? (Ad B 2)=false/\Hid (jy (E.setCell (Ad B 2) Q) w.heap.size B {(y.r1 k)with begins:=(y.r1 k).begins++[y.sp k]} Q (.slice ps (y.r1 k).stmts.length aa) (.slice none 0 0) (.slice none 0 0) (.slice none 0 0) K/\Bw w (E.setCell (Ad B 2) Q))):=fun Q E ho z=>by
    have kb:Bw wr (wr.drew.alloc (.cells #[aB (y.sp k:Nat)] 175)):=((Below.refl _ wr).drew).alloc (Nat.le_refl _) _
    have X:=HX.keep kb
    have k4:eH (fun t=>t=175) w.heap.size wr E:=(eH.of_below kb HX.base_le).trans (eH.grown X.b z rfl X.base_le)
    have L:=aA (k4.typ _ _ _ _ (by decide) HX.hd)
    exact⟨L.cell 2,L.fz 2,HX.begin k4 ho,N.kp.trans (k4.bel.setCell (p:=Ad B 2) HX.bb _)⟩
   go_wp2_with fail
   go_region_law (first|(refine bD rfl (.tmp 43) (.tmp 48) 283 rfl w.heap.size 175 i1 (aB 0) 1 8 Tryz.underlying283 hj be bd b9 rfl (by decide) _ _ _ (by simp[Act.eval,Act.put]) (HX.b.alloc _) (Ad wr.heap.size 0) 1 1 [aB (y.sp k:Nat)] (by simp[Act.eval,Act.put]) rfl (cF _ _ _ _ (by simp)) (by intro u hu;simp at hu;subst hu;rfl) (by decide) (by have:=bx.out;unfold maxLen;omega) (by have:=bx.out;omega) (by have:=HX.base_le;simp;omega) ?_;intro Q E C D R;obtain⟨p4,k4,rfl⟩:=aI C;obtain⟨e2,f2,v⟩:=d5 _ _ C D;clear C D R)|(go_simp;go_at_call 135;refine cr.mono ?_;rintro q wq ⟨rfl,hq⟩;subst wq;try go_wp2_with fail))
   all_goals
    obtain⟨M,Z⟩:=bM (E.setCell (Ad B 2) (.slice p4 ((y.r1 k).begins.length+1) k4))
    rw[<-Z]at v⊢
    have bn:=aG Z
    clear Z e2 f2
    have de:B< M.heap.size:=(aA v.1.hd).lt
    have q3:M.cell? (Ad B 3)=some (.slice ps (y.r1 k).stmts.length aa):=(aA v.1.hd).cell 3
    obtain⟨f,a9⟩:=bM ((M.alloc (.cells #[aB 0,aB 0,aB 12,.string ⟨#[]⟩,aB 0,aB 0,aB 0,aB 0,aB 0,.string ⟨#[]⟩,aB 0,aB 0,.slice none 0 0,.slice none 0 0] 219)).alloc (.cells #[Pt M.heap.size 0,aB k,aB 0,aB 0] 253))
    have k6:Bw M f:=by rw[a9];exact(ba M _).alloc (by simp) _
    have J:=aG (v.1.keep k6)
    have dd:B< f.heap.size:=(aA J.hd).lt
    have d8:f.cell? (Ad B 3)=some (.slice ps (y.r1 k).stmts.length aa):=(aA J.hd).cell 3
    have am:Hid (FJ f w.heap.size M.heap.size (bK (Fl.endS k).p (.slice none 0 0) (.slice none 0 0))):=.inr (by rw[a9];exact(Below.heap_alloc _ _ _ (by simp)).trans (heap_alloc_new M _))
    have P:aM f (M.heap.size+1) #[Pt M.heap.size 0,aB k,aB 0,aB 0]:=by rw[a9];exact aM.new' _ _ _ _ (by simp)
    have z0:f.cell? (Ad (M.heap.size+1) 0)=some (Pt M.heap.size 0):=P.cell 0
    have z1:f.cell? (Ad (M.heap.size+1) 1)=some (aB k):=P.cell 1
    have z2:f.cell? (Ad (M.heap.size+1) 2)=some (aB 0):=P.cell 2
    have z3:f.cell? (Ad (M.heap.size+1) 3)=some (aB 0):=P.cell 3
    have d9:M.heap.size+1< f.heap.size:=P.lt
    have ao:Bw w f:=v.2.trans (k6.mono v.2.size)
    have bq:=aG ao
    have c5:Hid (∀Q E,E.ownsRow w.heap.size 253 4 Q ((y.r1 k).stmts.length+1) (kn (K.zip (y.r1 k).stmts)++[Pt M.heap.size 0,aB k,aB 0,aB 0])->(f.drew.alloc (.cells #[Pt M.heap.size 0,aB k,aB 0,aB 0] 253)).grownBy E (Value.slice ps (y.r1 k).stmts.length aa).ownBlock->E.cell? (Ad B 3)=some (.slice ps (y.r1 k).stmts.length aa)/\E.frozen? (Ad B 3)=false/\Hid (Mi w (E.setCell (Ad B 3) Q) B (k+1) y)):=fun Q E ho z=>by
     have kb:Bw f (f.drew.alloc (.cells #[Pt M.heap.size 0,aB k,aB 0,aB 0] 253)):=((Below.refl _ f).drew).alloc (Nat.le_refl _) _
     have X:=J.keep kb
     have kT:eH (fun t=>t=253) w.heap.size f E:=(eH.of_below kb J.base_le).trans (eH.grown X.s z rfl X.base_le)
     have L:=aA (kT.typ _ _ _ _ (by decide) J.hd)
     have ce:=J.stmt (s:=Fl.endS k) (b:=M.heap.size) (sr:=.slice none 0 0) (sb:=.slice none 0 0) kT ho am (World.ownsRow_nil _ _ _ _)
     exact⟨L.cell 3,L.fz 3,⟨⟨.slice p4 ((y.r1 k).begins.length+1) k4,Q,K++[M.heap.size],by rw[Fl.r1_succ];exact ce⟩,bq.trans (kT.bel.setCell (p:=Ad B 3) J.bb _),by omega⟩⟩
    have cq:=aG a9
    have d6:(y.r1 k).stmts.length<=60:=by simp[Fl.r1];omega
    clear a9 k6 P ao
    go_wp2_with fail
    rw[<-cq.out]
    go_region_law (first|(refine bD rfl (.tmp 60) (.tmp 62) 183 rfl w.heap.size 253 i0 (.agg #[.pointer none,aB 0,aB 0,aB 0]) 4 32 Tryz.underlying183 hi ca c9 c8 rfl (by decide) _ _ _ (by simp[Act.eval,Act.put]) (J.s.alloc _) (Ad f.heap.size 0) 1 1 [Pt M.heap.size 0,aB k,aB 0,aB 0] (by simp[Act.eval,Act.put]) rfl (cF _ _ _ _ (by simp)) (by intro u hu;simp at hu;rcases hu with rfl|rfl|rfl<;>rfl) (by decide) (by show(y.r1 k).stmts.length+1<=maxLen;unfold maxLen;omega) (by show((y.r1 k).stmts.length+1)*32<=_;omega) (by have:=J.base_le;simp;omega) ?_;intro Q E C D R;obtain⟨p5,k5,rfl⟩:=aI C;obtain⟨e3,f3,F⟩:=c5 _ _ C D;clear C D R))
    all_goals
     go_wp2_with fail
     go_roundw
     case rel=>exact⟨k+1,by go_num,F⟩
     case measure=>simp[intOf];omega
end Go.Proofs.YtajfbbldaiaolaaGreatDoor
