import Derived.Test.YtmdaflepdaiabaaGreatDoorQ15
import Derived.Test.YtmdaflepdaiabaaGreatDoorQ16
set_option linter.unusedSimpArgs false
set_option linter.unusedVariables false
namespace Go.Proofs.YtmdaflepdaiabaaGreatDoor
section
set_option maxRecDepth 100000
set_option maxHeartbeats 4000000
open Go.RowKit Go.Shelf
structure Fl where
 main:Nat:=0
 mutexes:Nat:=0
 begins:List Int:=[]
 stmts:List Fs:=[]
structure lE(w:World)(bF:Nat)(y:Fl):Prop where
 ex:∃gv sv,an w bF #[gv,.int .i64 y.main,.int .i64 y.mutexes,sv]∧w.ownsRow 0 3 1 gv y.begins.length (y.begins.map (Value.int .i64))∧sW w sv y.stmts
namespace Fl
def sp(y:Fl)(f:Nat):Nat:=if y.begins.getD f 0=-1 then y.stmts.length+f else(y.begins.getD f 0).toNat
def endS(f:Nat):Fs:={p:={kind:=12},fn:=f}
def r1(y:Fl)(k:Nat):Rp:={main:=y.main,mutexes:=y.mutexes,begins:=(List.range k).map y.sp,stmts:=y.stmts++(List.range k).map endS,ends:=y.stmts.length}
def r2(y:Fl)(j:Nat):Rp:={y.r1 y.begins.length with starts:=(List.range j).filter (fun i=>(y.stmts.getD i {}).p.kind==7)}
def r3(y:Fl)(S:Nat):Rp:={y.r2 y.stmts.length with spots:=S}
def r4(y:Fl)(S t:Nat):Rp:={y.r3 S with twice:=t}
def r5(y:Fl)(S t:Nat)(rs:List Nat):Rp:={y.r4 S t with runs:=rs}
def r6(y:Fl)(S t:Nat)(rs bl:List Nat):Rp:={y.r5 S t rs with below:=bl}
end Fl
structure xf(y:Fl)(S ent t:Nat)(rs bl:List Nat):Prop where
 n:0< y.stmts.length
 len:y.begins.length≤5
 bg:∀f,f< y.begins.length→y.begins.getD f 0=-1∨(0≤y.begins.getD f 0∧y.begins.getD f 0≤48)
 main:y.main< y.begins.length
 ok:ei (y.r2 y.stmts.length)
 re:bK (y.r2 y.stmts.length).comeOf 70 (aC (y.sp y.main)) (aC (y.sp y.main))=some S
 cm:∀s,s< (y.r2 y.stmts.length).stmts.length→((y.r2 y.stmts.length).isCall s||(y.r2 y.stmts.length).isStart s)=true→((y.r2 y.stmts.length).st s).p.nn< y.begins.length
 sp:ci (y.r3 S)
 ag:jH (y.r3 S)
 ente:(y.r3 S).enteredO (y.r3 S).againS=some ent
 tw:(y.r3 S).twiceOf ent=t
 wh:qU (y.r4 S t)
 rn:(y.r4 S t).runsL=rs
 bw:yS (y.r5 S t rs)
 bl:(y.r5 S t rs).belowL=bl
 sl:(y.r2 y.stmts.length).starts.length< 60
theorem Fl.sp_lt{y:Fl}{S ent t:Nat}{rs bl:List Nat}(h:xf y S ent t rs bl){f:Nat}(hf:f< y.begins.length):y.sp f< 64:=by
 have h1:=h.bg f hf
 have h2:=h.ok.ends
 have h3:=h.len
 have h4:(y.r2 y.stmts.length).ends=y.stmts.length:=rfl
 unfold Fl.sp
 split<;>omega
theorem Fl.r1_zero(y:Fl):y.r1 0={main:=y.main,mutexes:=y.mutexes,begins:=[],stmts:=y.stmts,ends:=y.stmts.length}:=by simp[Fl.r1]
theorem Fl.r1_succ(y:Fl)(k:Nat):y.r1 (k+1)={(y.r1 k)with begins:=(y.r1 k).begins++[y.sp k],stmts:=(y.r1 k).stmts++[Fl.endS k]}:=by simp[Fl.r1,List.range_succ]
theorem Fl.r1_spot(y:Fl)(k:Nat):(y.r1 k).spot k (y.begins.getD k 0)=y.sp k:=rfl
structure Cd(w wr:World)(bR k:Nat)(y:Fl):Prop where
 ex:∃bv sv bs,ie wr w.heap.size bR (y.r1 k) bv sv (.slice none 0 0) (.slice none 0 0) (.slice none 0 0) bs
 kp:Below w.heap.size w wr
 le:k≤y.begins.length
theorem Fl.r2_yes{y:Fl}{j:Nat}(h:(y.stmts.getD j {}).p.kind=7):y.r2 (j+1)={(y.r2 j)with starts:=(y.r2 j).starts++[j]}:=by
 simp only[Fl.r2,List.range_succ,List.filter_append]
 congr 1
 simp
 rw[←List.getD_eq_getElem?_getD]
 exact h
theorem Fl.r2_no{y:Fl}{j:Nat}(h:(y.stmts.getD j {}).p.kind≠7):y.r2 (j+1)=y.r2 j:=by
 have e:[j].filter (fun i=>(y.stmts.getD i {}).p.kind==7)=[]:=by
  rw[List.filter_cons_of_neg (by simpa using h)]
  rfl
 simp only[Fl.r2,List.range_succ,List.filter_append,e,List.append_nil]
structure BG(w wr:World)(bR j:Nat)(y:Fl):Prop where
 ex:∃bv sv tv bs,ie wr w.heap.size bR (y.r2 j) bv sv tv (.slice none 0 0) (.slice none 0 0) bs
 kp:Below w.heap.size w wr
 le:j≤y.stmts.length
theorem Ch{w:World}{bF S ent t:Nat}{rs bl:List Nat}{y:Fl}(h:lE w bF y)(ok:xf y S ent t rs bl)(hg:0< w.heap.size)(hT:Tz w):
  Calls Tryz.prog 64 #[ak bF] w fun r w'=>∃bR,r=.returned (ak bR)∧aP w' bR (y.r6 S t rs bl)∧Below w.heap.size w w':=by
 obtain⟨i0,hi,hz0,hz1,hz2⟩:=info_parts iZ
 obtain⟨i1,hj,hj0,hj1,hj2⟩:=info_parts ns
 obtain⟨gv,sv,h1,h2,h3⟩:=h.ex
 obtain⟨bs,g1,g2,g3⟩:=h3.ex
 obtain⟨pb,cb,rfl⟩:=ai h2
 have hn:=ok.n
 obtain⟨gs,cs,rfl⟩:=aG g2 (by omega)
 have c0:w.cell? ⟨bF,0,none⟩=some (.slice pb y.begins.length cb):=h1.cell 0
 have c1:w.cell? ⟨bF,1,none⟩=some (.int .i64 y.main):=h1.cell 1
 have c2:w.cell? ⟨bF,2,none⟩=some (.int .i64 y.mutexes):=h1.cell 2
 have c3:w.cell? ⟨bF,3,none⟩=some (.slice (some ⟨gs,0,none⟩) y.stmts.length cs):=h1.cell 3
 have hF:=h1.lt
 have hsl:y.stmts.length≤48:=ok.ok.ends
 have HCL:=aa (zr (w:=w.drew) g2 hn (by omega) (wy _))
 have HG2:=aa g2
 have HG3:=aa g3
 have HH2:=aa h2
 have HOK:=aa ok
 have HT:=aa hT
 clear h h1 h2 h3 g2 g3 ok hT
 go_enter Tryz.func64,Tryz.ntmps64
 go_wp2_with fail
 go_region_held3 (fun w'=>w'.cell? ⟨bF,1,none⟩=some (.int .i64 y.main)∧w'.cell? ⟨bF,2,none⟩=some (.int .i64 y.mutexes)∧w'.cell? ⟨bF,3,none⟩=some (.slice (some ⟨gs,0,none⟩) y.stmts.length cs)) (first|exact⟨e1,e2,e3⟩|exact⟨c1,c2,c3⟩|go_keep) (first|(go_at_call 86;refine HCL.out.mono ?_;rintro q w1 ⟨v1,rfl,ho1,hb1⟩;obtain⟨p1,k1,rfl⟩:=ai ho1;have HO1:=aa ho1;have HB1:=aa hb1;have e1:w1.cell? ⟨bF,1,none⟩=some (.int .i64 y.main):=(hb1.cell (p:=⟨bF,1,none⟩) hF).trans c1;have e2:w1.cell? ⟨bF,2,none⟩=some (.int .i64 y.mutexes):=(hb1.cell (p:=⟨bF,2,none⟩) hF).trans c2;have e3:w1.cell? ⟨bF,3,none⟩=some (.slice (some ⟨gs,0,none⟩) y.stmts.length cs):=(hb1.cell (p:=⟨bF,3,none⟩) hF).trans c3;clear ho1 hb1))
 obtain⟨bR,hbR⟩:∃b,b=w1.heap.size:=⟨_,rfl⟩
 obtain⟨W1,hW1⟩:∃W,W=w1.alloc (.cells #[.int .i64 y.main,.int .i64 y.mutexes,.slice none 0 0,.slice p1 y.stmts.length k1,.slice none 0 0,.int .u64 0,.int .u64 0,.slice none 0 0,.slice none 0 0,.int .i64 y.stmts.length] 203):=⟨_,rfl⟩
 have hk1:Below w.heap.size w W1:=by
  rw[hW1]
  have hb:Below w.heap.size w w1:=⟨HB1.out.os,HB1.out.tape,HB1.out.output,HB1.out.size,HB1.out.block⟩
  exact hb.alloc hb.size _
 have HK1:=aa hk1
 have HX1:Hid (ie W1 w.heap.size bR (y.r1 0) (.slice none 0 0) (.slice p1 y.stmts.length k1) (.slice none 0 0) (.slice none 0 0) (.slice none 0 0) bs):=by
  show ie _ _ _ _ _ _ _ _ _ _
  rw[Fl.r1_zero]
  refine⟨by rw[hW1,hbR];exact heap_alloc_new w1 _,by rw[hbR];exact HB1.out.size,World.ownsRow_nil _ _ _ _,g1,by rw[hW1];exact HO1.out.alloc _,?_,World.ownsRow_nil _ _ _ _,World.ownsRow_nil _ _ _ _,World.ownsRow_nil _ _ _ _,fun i e=>by cases e⟩
  intro k b s hb hs
  obtain⟨sr,sb,q1,q2⟩:=HG3.out k b s hb hs
  exact⟨sr,sb,Or.inl ⟨q1.lt,q1.below hk1⟩,ay q2 hk1⟩
 have hRl:bR< W1.heap.size:=by rw[hW1,hbR];simp
 have d0:W1.cell? ⟨bF,0,none⟩=some (.slice pb y.begins.length cb):=(hk1.cell (p:=⟨bF,0,none⟩) hF).trans c0
 rw[←hW1,←hbR]
 have HW1:=aa hW1
 have HbR:=aa hbR
 clear hW1 hbR hk1 e1 e2 e3
 go_wp2_with fail
 clear d0
 go_loopw [34] (fun i wr=>∃k:Nat,i=.int .i64 k∧Hid (Cd w wr bR k y)) (fun i _=>y.begins.length-(intOf i).toNat)
 case atStart=>exact⟨0,rfl,⟨_,_,_,HX1.out⟩,HK1.out,Nat.zero_le _⟩
 case round=>
  obtain⟨k,rfl,HI⟩:=hrel
  have hkl:=HI.out.le
  by_cases hk:k=y.begins.length
  ·have hkn:¬((k:Int)< (y.begins.length:Int)):=by omega
   have HJ0:Hid (BG w wr bR 0 y):=by
    obtain⟨bv,sv,bs',hx⟩:=HI.out.ex
    rw[hk]at hx
    exact⟨⟨bv,sv,_,bs',hx⟩,HI.out.kp,Nat.zero_le _⟩
   have d3:wr.cell? ⟨bF,3,none⟩=some (.slice (some ⟨gs,0,none⟩) y.stmts.length cs):=(HI.out.kp.cell (p:=⟨bF,3,none⟩) hF).trans c3
   have hFr:bF< wr.heap.size:=Nat.lt_of_lt_of_le hF HI.out.kp.size
   clear hk hkl
   go_wp2_with fail
   clear d3 hFr hkn HI
   rename World=>wo
   go_loopw [72] (fun i wr=>∃k:Nat,i=.int .i64 k∧Hid (BG w wr bR k y)) (fun i _=>y.stmts.length-(intOf i).toNat)
   case atStart=>exact⟨0,rfl,HJ0⟩
   case round=>
    obtain⟨j,rfl,HI⟩:=hrel
    have hjl:=HI.out.le
    by_cases hk:j=y.stmts.length
    ·have hjn:¬((j:Int)< (y.stmts.length:Int)):=by omega
     obtain⟨bv,sv,tv,bs',hx⟩:=HI.out.ex
     rw[hk]at hx
     obtain⟨x2,hx2⟩:∃x,x=y.r2 y.stmts.length:=⟨_,rfl⟩
     have hbg:x2.begins.length=y.begins.length:=by rw[hx2];simp[Fl.r2,Fl.r1]
     have hmn:=HOK.out.main
     have hm0:x2.begins[y.main]?=some (y.sp y.main):=by rw[hx2];simp[Fl.r2,Fl.r1,hmn]
     obtain⟨gb2,cb2,e⟩:=aG hx.b (by rw[←hx2,hbg];omega)
     subst e
     have q2:wr.cell? ⟨bR,2,none⟩=some (.slice (some ⟨gb2,0,none⟩) y.begins.length cb2):=by rw[←hbg,hx2];exact(af hx.hd).cell 2
     have q0:wr.cell? ⟨bR,0,none⟩=some (.int .i64 y.main):=(af hx.hd).cell 0
     have qb:wr.cell? ⟨gb2,y.main,none⟩=some (.int .i64 (y.sp y.main:Nat)):=by
      rw[hx.b.cellAt _ (by rw[←hx2,hbg];omega),←hx2]
      simp[bV,hm0]
     have qb':wr.cell? ⟨gb2,y.main*1,none⟩=some (.int .i64 (y.sp y.main:Nat)):=by rw[Nat.mul_one];exact qb
     have hne:gb2≠bR:=by
      intro e'
      subst e'
      rcases hx.b.2 with⟨e,_⟩|⟨g,cap,cur,e,_,hh,_⟩
      ·cases e
      ·cases e
       rw[hx.hd]at hh
       cases hh
     have hmi:((y.main:Int)< (y.begins.length:Int)):=by omega
     have hRr:bR< wr.heap.size:=(af hx.hd).lt
     have HON:=aa (gy (y.sp y.main) (Fl.sp_lt HOK.out hmn))
     have HB:=aa HI.out.kp
     have HX:=aa hx
     have HRE:Hid (∀W,Below wr.heap.size wr W→Calls Tryz.prog 88 #[.int .u64 (aC (y.sp y.main):Nat),.func (.func 90) #[.pointer (some ⟨bR,0,none⟩)] #[]] W fun r w'=>r=.returned (.int .u64 S)∧Below W.heap.size W w'):=fun W kk=>by
      have hxw:=HX.out.keep kk
      have hbw:=HB.out.trans (kk.mono HB.out.size)
      refine nV (aC (y.sp y.main)) S (by rw[oD (Fl.sp_lt HOK.out hmn)];exact Nat.pow_lt_pow_right (by decide) (Fl.sp_lt HOK.out hmn)) (y.r2 y.stmts.length).comeOf 90 #[.pointer (some ⟨bR,0,none⟩)] #[] W (Nat.lt_of_lt_of_le hg hbw.size) (HT.out.below hbw) ⟨70,HOK.out.re⟩ (fun s W' hs hbit k'=>?_) mQ
      have hsl:s< (y.r2 y.stmts.length).stmts.length:=HOK.out.sp.mem s hs hbit
      refine AV (hxw.keep k').at HOK.out.ok hsl (fun hc=>?_)
      have h5:=HOK.out.cm s hsl hc
      refine⟨by rw[←hx2,hbg];rw[←hx2]at h5;exact h5,?_⟩
      have h6:=Fl.sp_lt HOK.out h5
      generalize((y.r2 y.stmts.length).st s).p.nn=nn at *
      have:(y.r2 y.stmts.length).begins.getD nn 0=y.sp nn:=by simp[Fl.r2,Fl.r1,h5]
      rw[this]
      exact h6
     have HX2:=aa hx2
     clear hx hm0 hbg hk hjl hx2 HI
     go_wp2_with fail
     go_region_held3 (fun w'=>w'.cell? ⟨bR,2,none⟩=some (.slice (some ⟨gb2,0,none⟩) y.begins.length cb2)∧w'.cell? ⟨bR,0,none⟩=some (.int .i64 y.main)∧w'.cell? ⟨gb2,y.main,none⟩=some (.int .i64 (y.sp y.main:Nat))) (first|exact⟨s2,s0,sb⟩|exact⟨e2,e0,eb⟩|exact⟨q2,q0,qb⟩|go_keep) (first|(go_at_call 89;refine(HON.out _).mono ?_;rintro q wq ⟨rfl,hq⟩;subst wq)|(go_at_call 88;refine(HRE.out _ (Below.refl _ wr).drew).mono ?_;rintro q w2 ⟨rfl,hb2⟩;have hb2':Below wr.heap.size wr w2:=⟨hb2.os,hb2.tape,hb2.output,hb2.size,hb2.block⟩;have HB2:=aa hb2';have HX3:=aa (HX.out.keep hb2');have e2:w2.cell? ⟨bR,2,none⟩=some (.slice (some ⟨gb2,0,none⟩) y.begins.length cb2):=(hb2'.cell (p:=⟨bR,2,none⟩) hRr).trans q2;have e0:w2.cell? ⟨bR,0,none⟩=some (.int .i64 y.main):=(hb2'.cell (p:=⟨bR,0,none⟩) hRr).trans q0;have eb:w2.cell? ⟨gb2,y.main,none⟩=some (.int .i64 (y.sp y.main:Nat)):=(hb2'.cell (p:=⟨gb2,y.main,none⟩) (ah qb)).trans qb;have f5:w2.frozen? ⟨bR,5,none⟩=false:=(af HX3.out.hd).fz 5;have e5:w2.cell? ⟨bR,5,none⟩=some (.int .u64 ((y.r2 y.stmts.length).spots:Nat)):=(af HX3.out.hd).cell 5;have l5:bR< w2.heap.size:=(af HX3.out.hd).lt;have s0:(w2.setCell ⟨bR,5,none⟩ (.int .u64 (S:Nat))).cell? ⟨bR,0,none⟩=some (.int .i64 y.main):=(af (HX3.out.spots (n:=S)).hd).cell 0;have s2:(w2.setCell ⟨bR,5,none⟩ (.int .u64 (S:Nat))).cell? ⟨bR,2,none⟩=some (.slice (some ⟨gb2,0,none⟩) y.begins.length cb2):=((af (HX3.out.spots (n:=S)).hd).cell 2).trans (((af HX3.out.hd).cell 2).symm.trans e2);have sb:(w2.setCell ⟨bR,5,none⟩ (.int .u64 (S:Nat))).cell? ⟨gb2,y.main,none⟩=some (.int .i64 (y.sp y.main:Nat)):=(World.cell?_of_block (a:=⟨gb2,y.main,none⟩) (Below.heap_setCell _ _ _ _ hne)).trans eb;clear hb2 hb2'))
     all_goals
      obtain⟨W3,hW3⟩:∃W,W=w2.setCell ⟨bR,5,none⟩ (.int .u64 (S:Nat)):=⟨_,rfl⟩
      have HX4:Hid (ie W3 w.heap.size bR (y.r3 S) (.slice (some ⟨gb2,0,none⟩) (y.r2 y.stmts.length).begins.length cb2) sv tv (.slice none 0 0) (.slice none 0 0) bs'):=by rw[hW3];exact HX3.out.spots
      have hb3:Below w.heap.size w W3:=by rw[hW3];exact(HB.out.trans (HB2.out.mono HB.out.size)).setCell (p:=⟨bR,5,none⟩) HX3.out.bb _
      rw[←hW3]
      have HB3:=aa hb3
      clear hW3 hb3 s0 s2 sb e0 e2 eb e5 f5 l5 q0 q2 qb qb' HX3 HB2
      have htw:=pY HX4.out.at ⟨HOK.out.ok.ends,HOK.out.ok.len,HOK.out.ok.st⟩ HOK.out.sp HOK.out.ag (Nat.lt_of_lt_of_le hg HB3.out.size) (HT.out.below HB3.out) (by have:=HOK.out.len;show(y.r2 y.stmts.length).begins.length< 64;simp[Fl.r2,Fl.r1];omega) (by have:=HOK.out.sl;exact Nat.lt_of_lt_of_le this (by decide)) HOK.out.ente
      rw[HOK.out.tw]at htw
      have HTW:=aa htw
      clear htw
      go_wp2_with fail
      refine HTW.out.mono ?_
      rintro q w4 ⟨rfl,hb4⟩
      have HX5:=aa (HX4.out.keep hb4)
      have hb5:=HB3.out.trans (hb4.mono HB3.out.size)
      have f6:w4.frozen? ⟨bR,6,none⟩=false:=(af HX5.out.hd).fz 6
      have e6:w4.cell? ⟨bR,6,none⟩=some (.int .u64 ((y.r3 S).twice:Nat)):=(af HX5.out.hd).cell 6
      obtain⟨W5,hW5⟩:∃W,W=w4.setCell ⟨bR,6,none⟩ (.int .u64 (t:Nat)):=⟨_,rfl⟩
      have HX6:Hid (ie W5 w.heap.size bR (y.r4 S t) (.slice (some ⟨gb2,0,none⟩) (y.r2 y.stmts.length).begins.length cb2) sv tv (.slice none 0 0) (.slice none 0 0) bs'):=by rw[hW5];exact HX5.out.twice
      have hb6:Below w.heap.size w W5:=by rw[hW5];exact hb5.setCell (p:=⟨bR,6,none⟩) HX5.out.bb _
      have hrn:=AR HX6.out.at ⟨HOK.out.ok.ends,HOK.out.ok.len,HOK.out.ok.st⟩ ⟨HOK.out.sp.lt,HOK.out.sp.mem⟩ ⟨HOK.out.ag.ag,HOK.out.ag.st⟩ HOK.out.wh (Nat.lt_of_lt_of_le hg hb6.size) (HT.out.below hb6) (by have:=HOK.out.sl;exact Nat.lt_of_lt_of_le this (by decide))
      rw[HOK.out.rn]at hrn
      have HRN:=aa hrn
      clear hrn
      have HB6:=aa hb6
      have HW5:=aa hW5
      clear hW5 hb6 hb5 hb4 HX4 HX5 HTW
      go_wp2_with fail
      rw[←HW5.out]
      refine HRN.out.mono ?_
      rintro q w6 ⟨v7,rfl,ho7,hb7⟩
      obtain⟨p7,k7,rfl⟩:=ai ho7
      have HX7:=aa (HX6.out.keep hb7)
      have hb8:=HB6.out.trans (hb7.mono HB6.out.size)
      have f7:w6.frozen? ⟨bR,7,none⟩=false:=(af HX7.out.hd).fz 7
      have e7:w6.cell? ⟨bR,7,none⟩=some (.slice none 0 0):=(af HX7.out.hd).cell 7
      obtain⟨W7,hW7⟩:∃W,W=w6.setCell ⟨bR,7,none⟩ (.slice p7 ((y.r4 S t).starts.length+1) k7):=⟨_,rfl⟩
      have HX8:Hid (ie W7 w.heap.size bR (y.r5 S t rs) (.slice (some ⟨gb2,0,none⟩) (y.r2 y.stmts.length).begins.length cb2) sv tv (.slice p7 ((y.r4 S t).starts.length+1) k7) (.slice none 0 0) bs'):=by
       rw[hW7]
       have e:rs.length=(y.r4 S t).starts.length+1:=by rw[←HOK.out.rn];simp[Rp.runsL]
       exact HX7.out.setRuns (l:=rs) (by rw[e];exact cQ ho7 _ HB6.out.size)
      have hb9:Below w.heap.size w W7:=by rw[hW7];exact hb8.setCell (p:=⟨bR,7,none⟩) HX7.out.bb _
      have hbw:=zt HX8.out.at ⟨HOK.out.ok.ends,HOK.out.ok.len,HOK.out.ok.st⟩ ⟨HOK.out.sp.lt,HOK.out.sp.mem⟩ ⟨HOK.out.ag.ag,HOK.out.ag.st⟩ HOK.out.bw (Nat.lt_of_lt_of_le hg hb9.size) (HT.out.below hb9)
      rw[HOK.out.bl]at hbw
      have HBW:=aa hbw
      clear hbw
      have HB9:=aa hb9
      have HW7:=aa hW7
      clear hW7 hb9 hb8 hb7 HX6 HX7 HRN ho7
      go_wp2_with fail
      rw[←HW7.out]
      refine HBW.out.mono ?_
      rintro q w8 ⟨v9,rfl,ho9,hb10⟩
      obtain⟨p9,k9,rfl⟩:=ai ho9
      have HX9:=aa (HX8.out.keep hb10)
      have hb11:=HB9.out.trans (hb10.mono HB9.out.size)
      have f8:w8.frozen? ⟨bR,8,none⟩=false:=(af HX9.out.hd).fz 8
      have e8:w8.cell? ⟨bR,8,none⟩=some (.slice none 0 0):=(af HX9.out.hd).cell 8
      have HXF:Hid (aP (w8.setCell ⟨bR,8,none⟩ (.slice p9 (y.r5 S t rs).starts.length k9)) bR (y.r6 S t rs bl)∧Below w.heap.size w (w8.setCell ⟨bR,8,none⟩ (.slice p9 (y.r5 S t rs).starts.length k9))):=by
       have e:bl.length=(y.r5 S t rs).starts.length:=by rw[←HOK.out.bl];simp[Rp.belowL]
       exact⟨(HX9.out.setBelow (l:=bl) (by rw[e];exact cQ ho9 _ HB9.out.size)).at,hb11.setCell (p:=⟨bR,8,none⟩) HX9.out.bb _⟩
      clear hb11 hb10 HX8 HX9 HBW ho9
      go_wp2_with fail
      go_ret
      exact⟨bR,rfl,HXF.out.1,HXF.out.2⟩
    ·have hjd:j< y.stmts.length:=by omega
     have hjn:((j:Int)< (y.stmts.length:Int)):=by omega
     clear hk
     obtain⟨bv,sv,tv,bs',hx⟩:=HI.out.ex
     obtain⟨pt,ct,rfl⟩:=ai hx.t
     obtain⟨b,hb⟩:∃b,bs[j]?=some b:=⟨_,List.getElem?_eq_getElem (by omega)⟩
     have hsj:y.stmts[j]?=some (y.stmts.getD j {}):=by rw[List.getD_eq_getElem?_getD,List.getElem?_eq_getElem hjd];rfl
     obtain⟨st,hst⟩:∃s,s=y.stmts.getD j {}:=⟨_,rfl⟩
     rw[←hst]at hsj
     have hz:(bs.zip y.stmts)[j]?=some (b,st):=by rw[List.getElem?_zip_eq_some];exact⟨hb,hsj⟩
     have hgs:=(HG2.out.lt gs rfl).2
     have hcc:∀i,i< 4→wr.cell? ⟨gs,j*4+i,none⟩=(uz (b,st))[i]?:=fun i hi=>by
      rw[HI.out.kp.cell (p:=⟨gs,j*4+i,none⟩) hgs,HG2.out.cellAt (g:=gs) (j*4+i) (by omega),tC _ j _ hz i hi]
     have z0:wr.cell? ⟨gs,j*4,none⟩=some (ak b):=hcc 0 (by decide)
     have z1:wr.cell? ⟨gs,j*4+1,none⟩=some (.int .i64 st.fn):=hcc 1 (by decide)
     have z2:wr.cell? ⟨gs,j*4+2,none⟩=some (.int .i64 st.nx):=hcc 2 (by decide)
     have z3:wr.cell? ⟨gs,j*4+3,none⟩=some (.int .i64 st.ins):=hcc 3 (by decide)
     obtain⟨sr,sb,hbk,-⟩:=HG3.out j b st hb hsj
     have hbl:=hbk.lt
     have d2:wr.cell? ⟨b,2,none⟩=some (.int .i64 st.p.kind):=(HI.out.kp.cell (p:=⟨b,2,none⟩) hbl).trans (hbk.cell 2)
     have hblr:b< wr.heap.size:=Nat.lt_of_lt_of_le hbl HI.out.kp.size
     have q4:wr.cell? ⟨bR,4,none⟩=some (.slice pt (y.r2 j).starts.length ct):=(af hx.hd).cell 4
     have hRr:bR< wr.heap.size:=(af hx.hd).lt
     have HX:=aa hx
     have HST:=aa hst
     clear hx hst hbk hcc hz hsj hb
     by_cases h7:st.p.kind=7
     ·have h7b:((st.p.kind:Int)==7)=true:=by rw[beq_iff_eq];omega
      have HL:Hid ((y.r2 j).starts.length≤48):=by
       show _≤_
       have:(y.r2 j).starts.length≤j:=by
        show(List.filter _ (List.range j)).length≤j
        have:=List.length_filter_le (fun i=>(y.stmts.getD i {}).p.kind==7) (List.range j)
        simpa using this
       omega
      obtain⟨W7,hW7⟩:∃W,W=wr.alloc (.cells #[ak b,.int .i64 st.fn,.int .i64 st.nx,.int .i64 st.ins] 197):=⟨_,rfl⟩
      have HW7:=aa hW7
      have k7:Below wr.heap.size wr W7:=by rw[hW7];exact(Below.refl _ wr).alloc (Nat.le_refl _) _
      have HX7:=aa (HX.out.keep k7)
      have HK7:=aa k7
      clear hW7 k7
      have HAPJ:Hid (∀v4 w4,w4.ownsRow w.heap.size 141 1 v4 ((y.r2 j).starts.length+1) (bV (y.r2 j).starts++[.int .i64 (j:Nat)])→(W7.alloc (.cells #[.int .i64 (j:Nat)] 141)).grownBy w4 (Value.slice pt (y.r2 j).starts.length ct).ownBlock→(v4.ownBlock=(Value.slice pt (y.r2 j).starts.length ct).ownBlock∨v4.ownBlock=some (W7.alloc (.cells #[.int .i64 (j:Nat)] 141)).heap.size)→w4.cell? ⟨bR,4,none⟩=some (.slice pt (y.r2 j).starts.length ct)∧w4.frozen? ⟨bR,4,none⟩=false∧bR< w4.heap.size∧Hid (BG w (w4.setCell ⟨bR,4,none⟩ v4) bR (j+1) y)):=fun v4 w4 ho hg4 hw4=>by
       have kb:Below W7.heap.size W7 (W7.alloc (.cells #[.int .i64 (j:Nat)] 141)):=(Below.refl _ W7).alloc (Nat.le_refl _) _
       have hxa:=HX7.out.keep kb
       have k4:dw (fun t=>t=141) w.heap.size W7 w4:=(dw.of_below kb HX7.out.base_le).trans (dw.grown hxa.t hg4 rfl hxa.base_le)
       have bl:=af (k4.typ _ _ _ _ (by decide) HX7.out.hd)
       have hx8:=HX7.out.start kb hg4 hw4 ho
       refine⟨bl.cell 4,bl.fz 4,bl.lt,⟨⟨bv,sv,v4,bs',?_⟩,(HI.out.kp.trans (HK7.out.mono HI.out.kp.size)).trans (k4.bel.setCell (p:=⟨bR,4,none⟩) HX7.out.bb _),by omega⟩⟩
       rw[Fl.r2_yes (by rw[←HST.out];exact h7)]
       exact hx8
      go_wp2_with (at_builtin;rw[←HW7.out];refine aq rfl _ _ 198 rfl w.heap.size 141 i1 (.int .i64 0) 1 8 Tryz.underlying198 hj hj0 hj1 hj2 rfl (by decide) _ _ _ rfl (HX7.out.t.alloc _) ⟨W7.heap.size,0,none⟩ 1 1 [.int .i64 (j:Nat)] (by simp[Act.eval,HW7.out]) rfl (aF _ _ _ _ (by simp)) (by intro u hu;simp at hu;subst hu;rfl) (by decide) (by have:=HL.out;unfold maxLen;omega) (by have:=HL.out;omega) (by have:=HX7.out.base_le;simp;omega) ?_;intro v4 w4 hown4 hgrow4 hwh4;obtain⟨p4,k4,rfl⟩:=ai hown4;obtain⟨e4,f4,l4,HX8⟩:=HAPJ.out _ _ hown4 hgrow4 hwh4;clear hown4 hgrow4 hwh4)
      go_roundw
      case rel=>exact⟨j+1,by go_num,HX8⟩
      case measure=>simp[intOf];omega
     ·have h7b:((st.p.kind:Int)==7)=false:=by rw[beq_eq_false_iff_ne];omega
      have HN:Hid (BG w (wr.alloc (.cells #[ak b,.int .i64 st.fn,.int .i64 st.nx,.int .i64 st.ins] 197)) bR (j+1) y):=by
       refine⟨⟨bv,sv,.slice pt (y.r2 j).starts.length ct,bs',?_⟩,HI.out.kp.alloc HI.out.kp.size _,by omega⟩
       rw[Fl.r2_no (by rw[←HST.out];exact h7)]
       exact HX.out.keep ((Below.refl _ wr).alloc (Nat.le_refl _) _)
      clear h7
      go_wp2_with fail
      go_roundw
      case rel=>exact⟨j+1,by go_num,HN⟩
      case measure=>simp[intOf];omega
  ·have hkd:k< y.begins.length:=by omega
   have hkn:((k:Int)< (y.begins.length:Int)):=by omega
   clear hk
   obtain⟨bv,sv,bs',hx⟩:=HI.out.ex
   obtain⟨pv,cv,rfl⟩:=ai hx.b
   obtain⟨ps,cs',rfl⟩:=ai hx.s
   obtain⟨gb,rfl⟩:∃gb,pb=some ⟨gb,0,none⟩:=by
    obtain⟨g,c',e⟩:=aG HH2.out (by omega)
    cases e;exact⟨g,rfl⟩
   have hp:=HOK.out.bg k hkd
   have HSP:Hid (Calls Tryz.prog 87 #[ak bR,.int .i64 k,.int .i64 (y.begins.getD k 0)] wr.drew fun r w'=>r=.returned (.int .i64 (y.sp k:Nat))∧w'=wr.drew):=by
    have:=HOK.out.len
    have:=vy (w:=wr.drew) (x:=y.r1 k) (hx.keep (W':=wr.drew) ⟨rfl,rfl,rfl,Nat.le_refl _,fun _ _=>rfl⟩).at k (y.begins.getD k 0) (by omega) (by omega) (by show y.stmts.length≤1000;omega)
    rw[Fl.r1_spot]at this
    exact this
   have hcell:wr.cell? ⟨gb,k,none⟩=some (.int .i64 (y.begins.getD k 0)):=by
    rw[HI.out.kp.cell (p:=⟨gb,k,none⟩) (HH2.out.lt gb rfl).2,HH2.out.cellAt _ (by omega)]
    simp[hkd]
   have hcell':wr.cell? ⟨gb,k*1,none⟩=some (.int .i64 (y.begins.getD k 0)):=by rw[Nat.mul_one];exact hcell
   generalize y.begins.getD k 0=pl at *
   have q2:wr.cell? ⟨bR,2,none⟩=some (.slice pv (y.r1 k).begins.length cv):=(af hx.hd).cell 2
   have hRr:bR< wr.heap.size:=(af hx.hd).lt
   have HX:=aa hx
   clear hx
   have hbl:(y.r1 k).begins.length=k:=by simp[Fl.r1]
   have HBL:=aa hbl
   clear hbl
   have hk5:k≤5:=by have:=HOK.out.len;omega
   have HAP:Hid (∀v4 w4,w4.ownsRow w.heap.size 141 1 v4 ((y.r1 k).begins.length+1) (bV (y.r1 k).begins++[.int .i64 (y.sp k:Nat)])→(wr.drew.alloc (.cells #[.int .i64 (y.sp k:Nat)] 141)).grownBy w4 (Value.slice pv (y.r1 k).begins.length cv).ownBlock→w4.cell? ⟨bR,2,none⟩=some (.slice pv (y.r1 k).begins.length cv)∧w4.frozen? ⟨bR,2,none⟩=false∧Hid (ie (w4.setCell ⟨bR,2,none⟩ v4) w.heap.size bR {(y.r1 k)with begins:=(y.r1 k).begins++[y.sp k]} v4 (.slice ps (y.r1 k).stmts.length cs') (.slice none 0 0) (.slice none 0 0) (.slice none 0 0) bs'∧Below w.heap.size w (w4.setCell ⟨bR,2,none⟩ v4))):=fun v4 w4 ho hg4=>by
    have kb:Below wr.heap.size wr (wr.drew.alloc (.cells #[.int .i64 (y.sp k:Nat)] 141)):=((Below.refl _ wr).drew).alloc (Nat.le_refl _) _
    have hxa:=HX.out.keep kb
    have k4:dw (fun t=>t=141) w.heap.size wr w4:=(dw.of_below kb HX.out.base_le).trans (dw.grown hxa.b hg4 rfl hxa.base_le)
    have bl:=af (k4.typ _ _ _ _ (by decide) HX.out.hd)
    exact⟨bl.cell 2,bl.fz 2,HX.out.begin k4 ho,HI.out.kp.trans (k4.bel.setCell (p:=⟨bR,2,none⟩) HX.out.bb _)⟩
   go_wp2_with fail
   go_region_law (first|(refine aA rfl (.tmp 43) (.tmp 48) 198 rfl w.heap.size 141 i1 (.int .i64 0) 1 8 Tryz.underlying198 hj hj0 hj1 hj2 rfl (by decide) _ _ _ (by simp[Act.eval,Act.put]) (HX.out.b.alloc _) ⟨wr.heap.size,0,none⟩ 1 1 [.int .i64 (y.sp k:Nat)] (by simp[Act.eval,Act.put]) rfl (aF _ _ _ _ (by simp)) (by intro u hu;simp at hu;subst hu;rfl) (by decide) (by have:=HBL.out;unfold maxLen;omega) (by have:=HBL.out;omega) (by have:=HX.out.base_le;simp;omega) ?_;intro v4 w4 hown4 hgrow4 hwh4;obtain⟨p4,k4,rfl⟩:=ai hown4;obtain⟨e2,f2,HX2⟩:=HAP.out _ _ hown4 hgrow4;clear hown4 hgrow4 hwh4)|(go_simp;go_at_call 87;refine HSP.out.mono ?_;rintro q wq ⟨rfl,hq⟩;subst wq;try go_wp2_with fail))
   all_goals
    obtain⟨W5,hW5⟩:∃W,W=w4.setCell ⟨bR,2,none⟩ (.slice p4 ((y.r1 k).begins.length+1) k4):=⟨_,rfl⟩
    rw[←hW5]at HX2⊢
    have HW5:=aa hW5
    clear hW5 e2 f2
    have hR5:bR< W5.heap.size:=(af HX2.out.1.hd).lt
    have q3:W5.cell? ⟨bR,3,none⟩=some (.slice ps (y.r1 k).stmts.length cs'):=(af HX2.out.1.hd).cell 3
    obtain⟨W6,hW6⟩:∃W,W=(W5.alloc (.cells #[.int .i64 0,.int .i64 0,.int .i64 12,.string ⟨#[]⟩,.int .i64 0,.int .i64 0,.int .i64 0,.int .i64 0,.int .i64 0,.string ⟨#[]⟩,.int .i64 0,.int .i64 0,.slice none 0 0,.slice none 0 0] 161)).alloc (.cells #[.pointer (some ⟨W5.heap.size,0,none⟩),.int .i64 k,.int .i64 0,.int .i64 0] 197):=⟨_,rfl⟩
    have k6:Below W5.heap.size W5 W6:=by rw[hW6];exact((Below.refl _ W5).alloc (Nat.le_refl _) _).alloc (by simp) _
    have HX6:=aa (HX2.out.1.keep k6)
    have hR6:bR< W6.heap.size:=(af HX6.out.hd).lt
    have q3':W6.cell? ⟨bR,3,none⟩=some (.slice ps (y.r1 k).stmts.length cs'):=(af HX6.out.hd).cell 3
    have HST:Hid (yJ W6 w.heap.size W5.heap.size (aK (Fl.endS k).p (.slice none 0 0) (.slice none 0 0))):=Or.inr (by rw[hW6];exact(Below.heap_alloc _ _ _ (by simp)).trans (heap_alloc_new W5 _))
    have hbk:an W6 (W5.heap.size+1) #[.pointer (some ⟨W5.heap.size,0,none⟩),.int .i64 k,.int .i64 0,.int .i64 0]:=by rw[hW6];exact an.new' _ _ _ _ (by simp)
    have z0:W6.cell? ⟨W5.heap.size+1,0,none⟩=some (.pointer (some ⟨W5.heap.size,0,none⟩)):=hbk.cell 0
    have z1:W6.cell? ⟨W5.heap.size+1,1,none⟩=some (.int .i64 k):=hbk.cell 1
    have z2:W6.cell? ⟨W5.heap.size+1,2,none⟩=some (.int .i64 0):=hbk.cell 2
    have z3:W6.cell? ⟨W5.heap.size+1,3,none⟩=some (.int .i64 0):=hbk.cell 3
    have hz6:W5.heap.size+1< W6.heap.size:=hbk.lt
    have hkb6:Below w.heap.size w W6:=HX2.out.2.trans (k6.mono HX2.out.2.size)
    have HKB6:=aa hkb6
    have HAP2:Hid (∀v4 w4,w4.ownsRow w.heap.size 197 4 v4 ((y.r1 k).stmts.length+1) (iW (bs'.zip (y.r1 k).stmts)++[.pointer (some ⟨W5.heap.size,0,none⟩),.int .i64 k,.int .i64 0,.int .i64 0])→(W6.drew.alloc (.cells #[.pointer (some ⟨W5.heap.size,0,none⟩),.int .i64 k,.int .i64 0,.int .i64 0] 197)).grownBy w4 (Value.slice ps (y.r1 k).stmts.length cs').ownBlock→w4.cell? ⟨bR,3,none⟩=some (.slice ps (y.r1 k).stmts.length cs')∧w4.frozen? ⟨bR,3,none⟩=false∧Hid (Cd w (w4.setCell ⟨bR,3,none⟩ v4) bR (k+1) y)):=fun v4 w4 ho hg4=>by
     have kb:Below W6.heap.size W6 (W6.drew.alloc (.cells #[.pointer (some ⟨W5.heap.size,0,none⟩),.int .i64 k,.int .i64 0,.int .i64 0] 197)):=((Below.refl _ W6).drew).alloc (Nat.le_refl _) _
     have hxa:=HX6.out.keep kb
     have kT:dw (fun t=>t=197) w.heap.size W6 w4:=(dw.of_below kb HX6.out.base_le).trans (dw.grown hxa.s hg4 rfl hxa.base_le)
     have bl:=af (kT.typ _ _ _ _ (by decide) HX6.out.hd)
     have hx7:=HX6.out.stmt (s:=Fl.endS k) (b:=W5.heap.size) (sr:=.slice none 0 0) (sb:=.slice none 0 0) kT ho HST.out (World.ownsRow_nil _ _ _ _)
     exact⟨bl.cell 3,bl.fz 3,⟨⟨.slice p4 ((y.r1 k).begins.length+1) k4,v4,bs'++[W5.heap.size],by rw[Fl.r1_succ];exact hx7⟩,HKB6.out.trans (kT.bel.setCell (p:=⟨bR,3,none⟩) HX6.out.bb _),by omega⟩⟩
    have HW6:=aa hW6
    have hsl6:(y.r1 k).stmts.length≤60:=by simp[Fl.r1];omega
    clear hW6 k6 hbk hkb6
    go_wp2_with fail
    rw[←HW6.out]
    go_region_law (first|(refine aA rfl (.tmp 60) (.tmp 62) 149 rfl w.heap.size 197 i0 (.agg #[.pointer none,.int .i64 0,.int .i64 0,.int .i64 0]) 4 32 Tryz.underlying149 hi hz0 hz1 hz2 rfl (by decide) _ _ _ (by simp[Act.eval,Act.put]) (HX6.out.s.alloc _) ⟨W6.heap.size,0,none⟩ 1 1 [.pointer (some ⟨W5.heap.size,0,none⟩),.int .i64 k,.int .i64 0,.int .i64 0] (by simp[Act.eval,Act.put]) rfl (aF _ _ _ _ (by simp)) (by intro u hu;simp at hu;rcases hu with rfl|rfl|rfl<;>rfl) (by decide) (by show(y.r1 k).stmts.length+1≤maxLen;unfold maxLen;omega) (by show((y.r1 k).stmts.length+1)*32≤_;omega) (by have:=HX6.out.base_le;simp;omega) ?_;intro v4 w4 hown4 hgrow4 hwh4;obtain⟨p5,k5,rfl⟩:=ai hown4;obtain⟨e3,f3,HX7⟩:=HAP2.out _ _ hown4 hgrow4;clear hown4 hgrow4 hwh4))
    all_goals
     go_wp2_with fail
     go_roundw
     case rel=>exact⟨k+1,by go_num,HX7⟩
     case measure=>simp[intOf];omega
end
end Go.Proofs.YtmdaflepdaiabaaGreatDoor
