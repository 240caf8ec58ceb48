import Derived.RangeFuncNested
import Derived.Test.YtmdaflepdaiabaaGreatDoorProg
import Derived.Test.YtmdaflepdaiabaaGreatDoorQ25
set_option linter.unusedSimpArgs false
set_option linter.unusedVariables false
namespace Go.Proofs.YtmdaflepdaiabaaGreatDoor
section
set_option maxRecDepth 100000
set_option maxHeartbeats 8000000
open Go.RowKit Go.Shelf
theorem vv{W:World}{n t:Nat}{A:Array Value}(h:W.heap[n+1+1]?=some (.cells A t (0,0)))(hA:A.size=8){b k:Nat}{v:Value}(hb:b< n+1+1)(hc:W.cell? ⟨b,k,none⟩=some v)(v0 v1 v2 v3 v4 v5 v6 v7:Value):((((((((W.setCell ⟨n+1+1,0,none⟩ v0).setCell ⟨n+1+1,1,none⟩ v1).setCell ⟨n+1+1,2,none⟩ v2).setCell ⟨n+1+1,3,none⟩ v3).setCell ⟨n+1+1,4,none⟩ v4).setCell ⟨n+1+1,5,none⟩ v5).setCell ⟨n+1+1,6,none⟩ v6).setCell ⟨n+1+1,7,none⟩ v7).cell? ⟨b,k,none⟩=some v:=
 ((ov h hA v0 v1 v2 v3 v4 v5 v6 v7).2.cell (p:=⟨b,k,none⟩) (ah hc) (fun e=>Nat.lt_irrefl _ (Eq.subst (motive:=fun i=>i< n+1+1) e hb))).trans hc
theorem vw{w D:World}{bT:Nat}{a b:Ac}{HA HB:Nat}{tn:Int}(h:mU w D bT a b HA HB)(hwr:a.wr=true∨(a.wr=false∧b.wr=true)){t s:Bool}{z1 z2:Int}(hts:t=false∨(t=true∧s=false))(hu0:(((dg HA HB:Nat):Int)!=0)=false)
  (HTO:Hid (Calls Tryz.prog 70 #[.agg #[.int .i64 a.spot,.bool a.wr,.int .i64 a.kind,.int .i64 a.num,.int .u64 a.things],.agg #[.int .i64 b.spot,.bool b.wr,.int .i64 b.kind,.int .i64 b.num,.int .u64 b.things]] D.drew fun r w'=>r=.returned (.tuple #[.int .i64 tn,.bool t])∧Below D.drew.heap.size D.drew w'))
  (HRO:Hid (∀W,Below w.heap.size w W→Calls Tryz.prog 71 #[ak bT,.int .i64 a.spot,.int .i64 b.spot] W fun r w'=>r=.returned (.tuple #[.int .i64 z1,.int .i64 z2,.bool s])∧Below W.heap.size W w'))
  :
  Calls Tryz.prog 49 #[ak bT,.agg #[.int .i64 a.spot,.bool a.wr,.int .i64 a.kind,.int .i64 a.num,.int .u64 a.things],.agg #[.int .i64 b.spot,.bool b.wr,.int .i64 b.kind,.int .i64 b.num,.int .u64 b.things]] w fun r w'=>gE w.heap.size none r w'∧Below w.heap.size w w':=by
 have r1:=dt
 have HD:=aa h.hD
 have HKD:=aa h.kD
 have HB3:=aa h.b3
 have hai:=h.hai
 have hbi:=h.hbi
 have hA:=h.hA
 have hB:=h.hB
 have hTl:bT< D.heap.size:=ah hA
 have hz:=af h.b3
 have hzl:=hz.lt
 have g0:D.cell? ⟨w.heap.size,0,none⟩=some (.int .i64 a.spot):=h.b1.cell 0
 have g1:D.cell? ⟨w.heap.size+1,0,none⟩=some (.int .i64 b.spot):=h.b2.cell 0
 have w1:D.cell? ⟨w.heap.size,1,none⟩=some (.bool a.wr):=h.b1.cell 1
 have w2:D.cell? ⟨w.heap.size+1,1,none⟩=some (.bool b.wr):=h.b2.cell 1
 have p0:D.cell? ⟨w.heap.size+1+1,0,none⟩=some (.int .i64 0):=hz.cell 0
 have fz0:D.frozen? ⟨w.heap.size+1+1,0,none⟩=false:=hz.fz 0
 have p1:D.cell? ⟨w.heap.size+1+1,1,none⟩=some (.int .i64 0):=hz.cell 1
 have fz1:D.frozen? ⟨w.heap.size+1+1,1,none⟩=false:=hz.fz 1
 have p2:D.cell? ⟨w.heap.size+1+1,2,none⟩=some (.int .i64 0):=hz.cell 2
 have fz2:D.frozen? ⟨w.heap.size+1+1,2,none⟩=false:=hz.fz 2
 have p3:D.cell? ⟨w.heap.size+1+1,3,none⟩=some (.int .i64 0):=hz.cell 3
 have fz3:D.frozen? ⟨w.heap.size+1+1,3,none⟩=false:=hz.fz 3
 have p4:D.cell? ⟨w.heap.size+1+1,4,none⟩=some (.int .i64 0):=hz.cell 4
 have fz4:D.frozen? ⟨w.heap.size+1+1,4,none⟩=false:=hz.fz 4
 have p5:D.cell? ⟨w.heap.size+1+1,5,none⟩=some (.int .i64 0):=hz.cell 5
 have fz5:D.frozen? ⟨w.heap.size+1+1,5,none⟩=false:=hz.fz 5
 have p6:D.cell? ⟨w.heap.size+1+1,6,none⟩=some (.slice none 0 0):=hz.cell 6
 have fz6:D.frozen? ⟨w.heap.size+1+1,6,none⟩=false:=hz.fz 6
 have p7:D.cell? ⟨w.heap.size+1+1,7,none⟩=some (.slice none 0 0):=hz.cell 7
 have fz7:D.frozen? ⟨w.heap.size+1+1,7,none⟩=false:=hz.fz 7
 have v2:D.cell? ⟨w.heap.size,2,none⟩=some (.int .i64 a.kind):=h.b1.cell 2
 have v3:D.cell? ⟨w.heap.size,3,none⟩=some (.int .i64 a.num):=h.b1.cell 3
 have v4:D.cell? ⟨w.heap.size,4,none⟩=some (.int .u64 a.things):=h.b1.cell 4
 have u2:D.cell? ⟨w.heap.size+1,2,none⟩=some (.int .i64 b.kind):=h.b2.cell 2
 have u3:D.cell? ⟨w.heap.size+1,3,none⟩=some (.int .i64 b.num):=h.b2.cell 3
 have u4:D.cell? ⟨w.heap.size+1,4,none⟩=some (.int .u64 b.things):=h.b2.cell 4
 have HB1:Hid (an D.drew w.heap.size #[.int .i64 a.spot,.bool a.wr,.int .i64 a.kind,.int .i64 a.num,.int .u64 a.things]):=h.b1.below ⟨rfl,rfl,rfl,Nat.le_refl _,fun _ _=>rfl⟩
 have HB2:Hid (an D.drew (w.heap.size+1) #[.int .i64 b.spot,.bool b.wr,.int .i64 b.kind,.int .i64 b.num,.int .u64 b.things]):=h.b2.below ⟨rfl,rfl,rfl,Nat.le_refl _,fun _ _=>rfl⟩
 rcases hwr with ea|⟨ea,eb⟩
 all_goals
  rw[ea]at w1 HTO
  try rw[eb]at w2 HTO
  clear ea h hz
  try clear eb
  go_enter Tryz.func49,Tryz.ntmps49
  go_wp2_with fail
  rw[←HD.out]
  go_region_held3 (fun w'=>w'.cell? ⟨w.heap.size,0,none⟩=some (.int .i64 a.spot)∧w'.cell? ⟨w.heap.size+1,0,none⟩=some (.int .i64 b.spot)∧w'.cell? ⟨bT,2+a.spot,none⟩=some (.int .u64 (HA:Nat))∧w'.cell? ⟨bT,2+b.spot,none⟩=some (.int .u64 (HB:Nat))) (first|exact⟨g0,g1,hA,hB⟩|go_keep) (fail)
  all_goals
   go_wp2_with fail
   refine HTO.out.mono ?_
   rintro q w3 ⟨rfl,hb3⟩
   have kw3:Below w.heap.size w w3:=HKD.out.drew.trans (hb3.mono HKD.out.drew.size)
   have c1:=HB1.out.below hb3
   have c2:=HB2.out.below hb3
   have c3:w3.heap[w.heap.size+1+1]?=some (.cells #[.int .i64 0,.int .i64 0,.int .i64 0,.int .i64 0,.int .i64 0,.int .i64 0,.slice none 0 0,.slice none 0 0] 36 (0,0)):=(hb3.block _ (by exact hzl)).trans HB3.out
   have s0:w3.cell? ⟨w.heap.size,0,none⟩=some (.int .i64 a.spot):=c1.cell 0
   have s1:w3.cell? ⟨w.heap.size+1,0,none⟩=some (.int .i64 b.spot):=c2.cell 0
   have HC1:=aa c1
   have HC2:=aa c2
   have HC3:=aa c3
   have HRW:=aa (HRO.out w3 kw3)
   have HK3:=aa kw3
   clear c1 c2 c3 kw3 hb3 HRO HB1 HB2 HB3 HKD HTO
   go_wp2_with fail
   refine HRW.out.mono ?_
   rintro q w4 ⟨rfl,hb4⟩
   have kw4:Below w.heap.size w w4:=HK3.out.trans (hb4.mono HK3.out.size)
   have d1:=HC1.out.below hb4
   have d2:=HC2.out.below hb4
   have d3:w4.heap[w.heap.size+1+1]?=some (.cells #[.int .i64 0,.int .i64 0,.int .i64 0,.int .i64 0,.int .i64 0,.int .i64 0,.slice none 0 0,.slice none 0 0] 36 (0,0)):=(hb4.block _ (by exact(af HC3.out).lt)).trans HC3.out
   have hz:=af d3
   have hzl4:=hz.lt
   have o0:w4.cell? ⟨w.heap.size+1+1,0,none⟩=some (.int .i64 0):=hz.cell 0
   have oz0:w4.frozen? ⟨w.heap.size+1+1,0,none⟩=false:=hz.fz 0
   have o1:w4.cell? ⟨w.heap.size+1+1,1,none⟩=some (.int .i64 0):=hz.cell 1
   have oz1:w4.frozen? ⟨w.heap.size+1+1,1,none⟩=false:=hz.fz 1
   have o2:w4.cell? ⟨w.heap.size+1+1,2,none⟩=some (.int .i64 0):=hz.cell 2
   have oz2:w4.frozen? ⟨w.heap.size+1+1,2,none⟩=false:=hz.fz 2
   have o3:w4.cell? ⟨w.heap.size+1+1,3,none⟩=some (.int .i64 0):=hz.cell 3
   have oz3:w4.frozen? ⟨w.heap.size+1+1,3,none⟩=false:=hz.fz 3
   have o4:w4.cell? ⟨w.heap.size+1+1,4,none⟩=some (.int .i64 0):=hz.cell 4
   have oz4:w4.frozen? ⟨w.heap.size+1+1,4,none⟩=false:=hz.fz 4
   have o5:w4.cell? ⟨w.heap.size+1+1,5,none⟩=some (.int .i64 0):=hz.cell 5
   have oz5:w4.frozen? ⟨w.heap.size+1+1,5,none⟩=false:=hz.fz 5
   have o6:w4.cell? ⟨w.heap.size+1+1,6,none⟩=some (.slice none 0 0):=hz.cell 6
   have oz6:w4.frozen? ⟨w.heap.size+1+1,6,none⟩=false:=hz.fz 6
   have o7:w4.cell? ⟨w.heap.size+1+1,7,none⟩=some (.slice none 0 0):=hz.cell 7
   have oz7:w4.frozen? ⟨w.heap.size+1+1,7,none⟩=false:=hz.fz 7
   have HD3:=aa d3
   have HK4:=aa kw4
   clear d1 d2 d3 kw4 hb4 hz HC1 HC2 HC3 HRW HK3
   rcases hts with rfl|⟨rfl,rfl⟩
   all_goals
    go_wp2_with fail
    obtain⟨W8,hW8⟩:∃W',W'=((((((((w4.setCell ⟨w.heap.size+1+1,0,none⟩ (.int .i64 0)).setCell ⟨w.heap.size+1+1,1,none⟩ (.int .i64 0)).setCell ⟨w.heap.size+1+1,2,none⟩ (.int .i64 0)).setCell ⟨w.heap.size+1+1,3,none⟩ (.int .i64 0)).setCell ⟨w.heap.size+1+1,4,none⟩ (.int .i64 0)).setCell ⟨w.heap.size+1+1,5,none⟩ (.int .i64 0)).setCell ⟨w.heap.size+1+1,6,none⟩ (.slice none 0 0)).setCell ⟨w.heap.size+1+1,7,none⟩ (.slice none 0 0)):=⟨_,rfl⟩
    have h8:=ov HD3.out rfl (.int .i64 0) (.int .i64 0) (.int .i64 0) (.int .i64 0) (.int .i64 0) (.int .i64 0) (.slice none 0 0) (.slice none 0 0)
    have hh:W8.heap[w.heap.size+1+1]?=some (.cells #[.int .i64 0,.int .i64 0,.int .i64 0,.int .i64 0,.int .i64 0,.int .i64 0,.slice none 0 0,.slice none 0 0] 36 (0,0)):=by subst hW8;exact h8.1
    have kk:Below w.heap.size w W8:=by subst hW8;exact(aE HK4.out h8.2 (by omega))
    rw[←hW8]
    clear hW8 h8
    refine bodyPost_ret (dP rfl _ _ (w.heap.size+1+1) 36 _ (0,0) _ rfl hh Tryz.underlying36 rfl ew) rfl ⟨fP w.heap.size W8 _ rfl,kk⟩
theorem AM{w D:World}{bT:Nat}{a b:Ac}{HA HB:Nat}{tn:Int}{z1 z2:Nat}(h:mU w D bT a b HA HB)(hwr:a.wr=true∨(a.wr=false∧b.wr=true))(hu0:(((dg HA HB:Nat):Int)!=0)=false)
  (HTO:Hid (Calls Tryz.prog 70 #[.agg #[.int .i64 a.spot,.bool a.wr,.int .i64 a.kind,.int .i64 a.num,.int .u64 a.things],.agg #[.int .i64 b.spot,.bool b.wr,.int .i64 b.kind,.int .i64 b.num,.int .u64 b.things]] D.drew fun r w'=>r=.returned (.tuple #[.int .i64 tn,.bool true])∧Below D.drew.heap.size D.drew w'))
  (HRO:Hid (∀W,Below w.heap.size w W→Calls Tryz.prog 71 #[ak bT,.int .i64 a.spot,.int .i64 b.spot] W fun r w'=>r=.returned (.tuple #[.int .i64 z1,.int .i64 z2,.bool true])∧Below W.heap.size W w'))
  (HNU:Hid (∀s W,s< bI→Below w.heap.size w W→Calls Tryz.prog 72 #[.int .u64 s] W fun r w'=>∃v,r=.returned v∧w'.ownsRow W.heap.size 3 1 v (els s).length (bV (els s))∧Below W.heap.size W w')) (hHA:HA< bI) (hHB:HB< bI):
  Calls Tryz.prog 49 #[ak bT,.agg #[.int .i64 a.spot,.bool a.wr,.int .i64 a.kind,.int .i64 a.num,.int .u64 a.things],.agg #[.int .i64 b.spot,.bool b.wr,.int .i64 b.kind,.int .i64 b.num,.int .u64 b.things]] w fun r w'=>gE w.heap.size (some {a:=a.spot,b:=b.spot,new:=tn,field:=a.num,ra:=z1,rb:=z2,la:=els HA,lb:=els HB}) r w'∧Below w.heap.size w w':=by
 have r1:=dt
 have HD:=aa h.hD
 have HKD:=aa h.kD
 have HB3:=aa h.b3
 have hai:=h.hai
 have hbi:=h.hbi
 have hA:=h.hA
 have hB:=h.hB
 have hTl:bT< D.heap.size:=ah hA
 have hz:=af h.b3
 have hzl:=hz.lt
 have g0:D.cell? ⟨w.heap.size,0,none⟩=some (.int .i64 a.spot):=h.b1.cell 0
 have g1:D.cell? ⟨w.heap.size+1,0,none⟩=some (.int .i64 b.spot):=h.b2.cell 0
 have w1:D.cell? ⟨w.heap.size,1,none⟩=some (.bool a.wr):=h.b1.cell 1
 have w2:D.cell? ⟨w.heap.size+1,1,none⟩=some (.bool b.wr):=h.b2.cell 1
 have p0:D.cell? ⟨w.heap.size+1+1,0,none⟩=some (.int .i64 0):=hz.cell 0
 have fz0:D.frozen? ⟨w.heap.size+1+1,0,none⟩=false:=hz.fz 0
 have p1:D.cell? ⟨w.heap.size+1+1,1,none⟩=some (.int .i64 0):=hz.cell 1
 have fz1:D.frozen? ⟨w.heap.size+1+1,1,none⟩=false:=hz.fz 1
 have p2:D.cell? ⟨w.heap.size+1+1,2,none⟩=some (.int .i64 0):=hz.cell 2
 have fz2:D.frozen? ⟨w.heap.size+1+1,2,none⟩=false:=hz.fz 2
 have p3:D.cell? ⟨w.heap.size+1+1,3,none⟩=some (.int .i64 0):=hz.cell 3
 have fz3:D.frozen? ⟨w.heap.size+1+1,3,none⟩=false:=hz.fz 3
 have p4:D.cell? ⟨w.heap.size+1+1,4,none⟩=some (.int .i64 0):=hz.cell 4
 have fz4:D.frozen? ⟨w.heap.size+1+1,4,none⟩=false:=hz.fz 4
 have p5:D.cell? ⟨w.heap.size+1+1,5,none⟩=some (.int .i64 0):=hz.cell 5
 have fz5:D.frozen? ⟨w.heap.size+1+1,5,none⟩=false:=hz.fz 5
 have p6:D.cell? ⟨w.heap.size+1+1,6,none⟩=some (.slice none 0 0):=hz.cell 6
 have fz6:D.frozen? ⟨w.heap.size+1+1,6,none⟩=false:=hz.fz 6
 have p7:D.cell? ⟨w.heap.size+1+1,7,none⟩=some (.slice none 0 0):=hz.cell 7
 have fz7:D.frozen? ⟨w.heap.size+1+1,7,none⟩=false:=hz.fz 7
 have v2:D.cell? ⟨w.heap.size,2,none⟩=some (.int .i64 a.kind):=h.b1.cell 2
 have v3:D.cell? ⟨w.heap.size,3,none⟩=some (.int .i64 a.num):=h.b1.cell 3
 have v4:D.cell? ⟨w.heap.size,4,none⟩=some (.int .u64 a.things):=h.b1.cell 4
 have u2:D.cell? ⟨w.heap.size+1,2,none⟩=some (.int .i64 b.kind):=h.b2.cell 2
 have u3:D.cell? ⟨w.heap.size+1,3,none⟩=some (.int .i64 b.num):=h.b2.cell 3
 have u4:D.cell? ⟨w.heap.size+1,4,none⟩=some (.int .u64 b.things):=h.b2.cell 4
 have HB1:Hid (an D.drew w.heap.size #[.int .i64 a.spot,.bool a.wr,.int .i64 a.kind,.int .i64 a.num,.int .u64 a.things]):=h.b1.below ⟨rfl,rfl,rfl,Nat.le_refl _,fun _ _=>rfl⟩
 have HB2:Hid (an D.drew (w.heap.size+1) #[.int .i64 b.spot,.bool b.wr,.int .i64 b.kind,.int .i64 b.num,.int .u64 b.things]):=h.b2.below ⟨rfl,rfl,rfl,Nat.le_refl _,fun _ _=>rfl⟩
 rcases hwr with ea|⟨ea,eb⟩
 all_goals
  rw[ea]at w1 HTO
  try rw[eb]at w2 HTO
  clear ea h hz
  try clear eb
  go_enter Tryz.func49,Tryz.ntmps49
  go_wp2_with fail
  rw[←HD.out]
  go_region_held3 (fun w'=>w'.cell? ⟨w.heap.size,0,none⟩=some (.int .i64 a.spot)∧w'.cell? ⟨w.heap.size+1,0,none⟩=some (.int .i64 b.spot)∧w'.cell? ⟨bT,2+a.spot,none⟩=some (.int .u64 (HA:Nat))∧w'.cell? ⟨bT,2+b.spot,none⟩=some (.int .u64 (HB:Nat))) (first|exact⟨g0,g1,hA,hB⟩|go_keep) (fail)
  all_goals
   go_wp2_with fail
   refine HTO.out.mono ?_
   rintro q w3 ⟨rfl,hb3⟩
   have kw3:Below w.heap.size w w3:=HKD.out.drew.trans (hb3.mono HKD.out.drew.size)
   have c1:=HB1.out.below hb3
   have c2:=HB2.out.below hb3
   have c3:w3.heap[w.heap.size+1+1]?=some (.cells #[.int .i64 0,.int .i64 0,.int .i64 0,.int .i64 0,.int .i64 0,.int .i64 0,.slice none 0 0,.slice none 0 0] 36 (0,0)):=(hb3.block _ (by exact hzl)).trans HB3.out
   have s0:w3.cell? ⟨w.heap.size,0,none⟩=some (.int .i64 a.spot):=c1.cell 0
   have s1:w3.cell? ⟨w.heap.size+1,0,none⟩=some (.int .i64 b.spot):=c2.cell 0
   have HC1:=aa c1
   have HC2:=aa c2
   have HC3:=aa c3
   have HRW:=aa (HRO.out w3 kw3)
   have HK3:=aa kw3
   clear c1 c2 c3 kw3 hb3 HRO HB1 HB2 HB3 HKD HTO
   go_wp2_with fail
   refine HRW.out.mono ?_
   rintro q w4 ⟨rfl,hb4⟩
   have kw4:Below w.heap.size w w4:=HK3.out.trans (hb4.mono HK3.out.size)
   have d1:=HC1.out.below hb4
   have d2:=HC2.out.below hb4
   have d3:w4.heap[w.heap.size+1+1]?=some (.cells #[.int .i64 0,.int .i64 0,.int .i64 0,.int .i64 0,.int .i64 0,.int .i64 0,.slice none 0 0,.slice none 0 0] 36 (0,0)):=(hb4.block _ (by exact(af HC3.out).lt)).trans HC3.out
   have q0:w4.cell? ⟨w.heap.size,0,none⟩=some (.int .i64 a.spot):=d1.cell 0
   have q1:w4.cell? ⟨w.heap.size+1,0,none⟩=some (.int .i64 b.spot):=d2.cell 0
   have q3:w4.cell? ⟨w.heap.size,3,none⟩=some (.int .i64 a.num):=d1.cell 3
   have HD1:=aa d1
   have HD2:=aa d2
   have HD3:=aa d3
   have HK4:=aa kw4
   clear d1 d2 d3 kw4 hb4 HC1 HC2 HC3 HRW HK3
   go_wp2_with fail
   go_region_held3 (fun w'=>w'.cell? ⟨w.heap.size,0,none⟩=some (.int .i64 a.spot)∧w'.cell? ⟨w.heap.size+1,0,none⟩=some (.int .i64 b.spot)∧w'.cell? ⟨w.heap.size,3,none⟩=some (.int .i64 a.num)) (first|with_reducible exact⟨m0,m1,m3⟩|with_reducible exact⟨q0,q1,q3⟩|with_reducible exact⟨k0,k1,k3⟩|with_reducible exact⟨j0,j1,j3⟩|go_keep) (first|(go_at_call 72;refine(HNU.out HB w5 hHB HK5.out).mono ?_;rintro q w6 ⟨lb,rfl,ho,hb⟩;obtain⟨plb,clb,rfl⟩:=ai ho;have HOlb:Hid (w6.ownsRow (w.heap.size+1+1+1) 3 1 (.slice plb (els HB).length clb) (els HB).length (bV (els HB))):=aa (cQ ho (w.heap.size+1+1+1) (af HY3.out).lt);have HPla:=aa (ay HOla.out hb);have HK6:Hid (Below w.heap.size w w6):=aa (HK5.out.trans (hb.mono HK5.out.size));have x1:=HY1.out.below hb;have x2:=HY2.out.below hb;have j0:w6.cell? ⟨w.heap.size,0,none⟩=some (.int .i64 a.spot):=x1.cell 0;have j1:w6.cell? ⟨w.heap.size+1,0,none⟩=some (.int .i64 b.spot):=x2.cell 0;have j3:w6.cell? ⟨w.heap.size,3,none⟩=some (.int .i64 a.num):=x1.cell 3;have HX3:Hid (w6.heap[w.heap.size+1+1]?=some (.cells #[.int .i64 0,.int .i64 0,.int .i64 0,.int .i64 0,.int .i64 0,.int .i64 0,.slice none 0 0,.slice none 0 0] 36 (0,0))):=aa ((hb.block _ (by exact(af HY3.out).lt)).trans HY3.out);have hz:=af HX3.out;have hzl6:=hz.lt;have o0:w6.cell? ⟨w.heap.size+1+1,0,none⟩=some (.int .i64 0):=hz.cell 0;have oz0:w6.frozen? ⟨w.heap.size+1+1,0,none⟩=false:=hz.fz 0;have o1:w6.cell? ⟨w.heap.size+1+1,1,none⟩=some (.int .i64 0):=hz.cell 1;have oz1:w6.frozen? ⟨w.heap.size+1+1,1,none⟩=false:=hz.fz 1;have o2:w6.cell? ⟨w.heap.size+1+1,2,none⟩=some (.int .i64 0):=hz.cell 2;have oz2:w6.frozen? ⟨w.heap.size+1+1,2,none⟩=false:=hz.fz 2;have o3:w6.cell? ⟨w.heap.size+1+1,3,none⟩=some (.int .i64 0):=hz.cell 3;have oz3:w6.frozen? ⟨w.heap.size+1+1,3,none⟩=false:=hz.fz 3;have o4:w6.cell? ⟨w.heap.size+1+1,4,none⟩=some (.int .i64 0):=hz.cell 4;have oz4:w6.frozen? ⟨w.heap.size+1+1,4,none⟩=false:=hz.fz 4;have o5:w6.cell? ⟨w.heap.size+1+1,5,none⟩=some (.int .i64 0):=hz.cell 5;have oz5:w6.frozen? ⟨w.heap.size+1+1,5,none⟩=false:=hz.fz 5;have o6:w6.cell? ⟨w.heap.size+1+1,6,none⟩=some (.slice none 0 0):=hz.cell 6;have oz6:w6.frozen? ⟨w.heap.size+1+1,6,none⟩=false:=hz.fz 6;have o7:w6.cell? ⟨w.heap.size+1+1,7,none⟩=some (.slice none 0 0):=hz.cell 7;have oz7:w6.frozen? ⟨w.heap.size+1+1,7,none⟩=false:=hz.fz 7;have m0:=vv HX3.out rfl (Nat.lt_of_lt_of_le (Nat.lt_succ_self _) (Nat.le_succ _)) j0 (.int .i64 a.spot) (.int .i64 b.spot) (.int .i64 tn) (.int .i64 a.num) (.int .i64 z1) (.int .i64 z2) (.slice pla (els HA).length cla) (.slice plb (els HB).length clb);have m1:=vv HX3.out rfl (Nat.lt_succ_self _) j1 (.int .i64 a.spot) (.int .i64 b.spot) (.int .i64 tn) (.int .i64 a.num) (.int .i64 z1) (.int .i64 z2) (.slice pla (els HA).length cla) (.slice plb (els HB).length clb);have m3:=vv HX3.out rfl (Nat.lt_of_lt_of_le (Nat.lt_succ_self _) (Nat.le_succ _)) j3 (.int .i64 a.spot) (.int .i64 b.spot) (.int .i64 tn) (.int .i64 a.num) (.int .i64 z1) (.int .i64 z2) (.slice pla (els HA).length cla) (.slice plb (els HB).length clb);clear hb ho x1 x2 hz q0 q1 q3 k0 k1 k3)|(go_at_call 72;(fail_if_success (have hh5:=HK5));refine(HNU.out HA w4.drew hHA HK4.out.drew).mono ?_;rintro q w5 ⟨la,rfl,ho,hb⟩;obtain⟨pla,cla,rfl⟩:=ai ho;have kw5:Below w.heap.size w w5:=HK4.out.trans (Below.mono ⟨hb.os,hb.tape,hb.output,hb.size,hb.block⟩ HK4.out.size);have y1:=HD1.out.below (w':=w5) ⟨hb.os,hb.tape,hb.output,hb.size,hb.block⟩;have y2:=HD2.out.below (w':=w5) ⟨hb.os,hb.tape,hb.output,hb.size,hb.block⟩;have HY1:=aa y1;have HY2:=aa y2;have HY3:Hid (w5.heap[w.heap.size+1+1]?=some (.cells #[.int .i64 0,.int .i64 0,.int .i64 0,.int .i64 0,.int .i64 0,.int .i64 0,.slice none 0 0,.slice none 0 0] 36 (0,0))):=aa ((hb.block _ (by exact(af HD3.out).lt)).trans HD3.out);have k0:w5.cell? ⟨w.heap.size,0,none⟩=some (.int .i64 a.spot):=y1.cell 0;have k1:w5.cell? ⟨w.heap.size+1,0,none⟩=some (.int .i64 b.spot):=y2.cell 0;have k3:w5.cell? ⟨w.heap.size,3,none⟩=some (.int .i64 a.num):=y1.cell 3;have HOla:Hid (w5.ownsRow (w.heap.size+1+1+1) 3 1 (.slice pla (els HA).length cla) (els HA).length (bV (els HA))):=aa (cQ ho (w.heap.size+1+1+1) (af HD3.out).lt);have HK5:=aa kw5;clear hb ho kw5 y1 y2))
   all_goals
    obtain⟨W8,hW8⟩:∃W',W'=((((((((w6.setCell ⟨w.heap.size+1+1,0,none⟩ (.int .i64 a.spot)).setCell ⟨w.heap.size+1+1,1,none⟩ (.int .i64 b.spot)).setCell ⟨w.heap.size+1+1,2,none⟩ (.int .i64 tn)).setCell ⟨w.heap.size+1+1,3,none⟩ (.int .i64 a.num)).setCell ⟨w.heap.size+1+1,4,none⟩ (.int .i64 z1)).setCell ⟨w.heap.size+1+1,5,none⟩ (.int .i64 z2)).setCell ⟨w.heap.size+1+1,6,none⟩ (.slice pla (els HA).length cla)).setCell ⟨w.heap.size+1+1,7,none⟩ (.slice plb (els HB).length clb)):=⟨_,rfl⟩
    have h8:=ov HX3.out rfl (.int .i64 a.spot) (.int .i64 b.spot) (.int .i64 tn) (.int .i64 a.num) (.int .i64 z1) (.int .i64 z2) (.slice pla (els HA).length cla) (.slice plb (els HB).length clb)
    rw[←hW8]at h8
    rw[←hW8]
    clear hW8 m0 m1 m3 j0 j1 j3
    have kk:Below w.heap.size w W8:=aE HK6.out h8.2 (by omega)
    have HLA:=aa (cQ (qj HPla.out h8.2 (Nat.lt_succ_self _)) w.heap.size (by omega))
    have HLB:=aa (cQ (qj HOlb.out h8.2 (Nat.lt_succ_self _)) w.heap.size (by omega))
    go_wp2_with fail
    refine bodyPost_ret (dP rfl _ _ (w.heap.size+1+1) 36 _ (0,0) _ rfl h8.1 Tryz.underlying36 rfl ew) rfl ⟨⟨_,_,rfl,HLA.out,HLB.out⟩,kk⟩
end
section
open Go.RowKit Go.Shelf
theorem td{l:List Nat}(hw:Wd 53 l){k:Nat}(hk:k< 53):l.getD k 0< bI:=by
 have hl:k< l.length:=by have:=hw.len;omega
 have e:l.getD k 0=l[k]:=by simp[List.getD_eq_getElem?_getD,List.getElem?_eq_getElem hl]
 rw[e]
 exact hw.lt _ (List.getElem_mem _)
theorem vu{u:Nat}(h:u≠0):(((u:Nat):Int)!=0)=true:=by rw[bne_iff_ne];omega
theorem zj{u:Nat}(h:u=0):(((u:Nat):Int)!=0)=false:=by subst h;rfl
theorem zi{p q:Bool}{u:Nat}(he:((!p&&!q)||u !=0)=true):(p=false∧q=false)∨(p=false∧q=true∧u≠0)∨(p=true∧u≠0):=by
 cases p<;>cases q<;>simp_all
theorem zh{p q:Bool}{u:Nat}(he:¬((!p&&!q)||u !=0)=true):u=0∧(p=true∨(p=false∧q=true)):=by
 cases p<;>cases q<;>simp_all
def mX(a b:Ac)(HA HB:Nat)(tf:Int×Bool)(o:Option (Nat×Nat)):Option jp:=
 if((!a.wr&&!b.wr)||dg HA HB !=0)=true then none
 else if tf.2=false then none
 else match o with
  |none=>none
  |some z=>some {a:=a.spot,b:=b.spot,new:=tf.1,field:=a.num,ra:=z.1,rb:=z.2,la:=els HA,lb:=els HB}
theorem xB{a b:Ac}{HA HB:Nat}{tf:Int×Bool}{o:Option (Nat×Nat)}(he:((!a.wr&&!b.wr)||dg HA HB !=0)=true):mX a b HA HB tf o=none:=if_pos he
theorem zm{a b:Ac}{HA HB:Nat}{tn:Int}{o:Option (Nat×Nat)}(he:¬((!a.wr&&!b.wr)||dg HA HB !=0)=true):mX a b HA HB (tn,false) o=none:=by
 unfold mX;rw[if_neg he,if_pos rfl]
theorem zl{a b:Ac}{HA HB:Nat}{tn:Int}(he:¬((!a.wr&&!b.wr)||dg HA HB !=0)=true):mX a b HA HB (tn,true) none=none:=by
 unfold mX;rw[if_neg he,if_neg (by simp)]
theorem zk{a b:Ac}{HA HB:Nat}{tn:Int}{z:Nat×Nat}(he:¬((!a.wr&&!b.wr)||dg HA HB !=0)=true):mX a b HA HB (tn,true) (some z)=some {a:=a.spot,b:=b.spot,new:=tn,field:=a.num,ra:=z.1,rb:=z.2,la:=els HA,lb:=els HB}:=by
 unfold mX;rw[if_neg he,if_neg (by simp)]
theorem xC(x:Rp)(held about:List Nat)(a b:Ac):x.repOf held about a b=mX a b (held.getD a.spot 0) (held.getD b.spot 0) (jy a b) (x.rootsOf about a.spot b.spot):=by
 unfold Rp.repOf mX
 cases x.rootsOf about a.spot b.spot<;>rfl
theorem rG(x:Rp)(about:List Nat)(a b:Nat):x.rootsOf about a b=gJ (fun ra rb=>x.atATimeOf about ra a rb b) (els (x.runByOf (x.st a).fn)) (els (x.runByOf (x.st b).fn)):=by unfold Rp.rootsOf;rfl
def vq:Option (Nat×Nat)→Value
 |some z=>.tuple #[.int .i64 z.1,.int .i64 z.2,.bool true]
 |none=>.tuple #[.int .i64 0,.int .i64 0,.bool false]
theorem BJ{w D:World}{bT:Nat}{a b:Ac}{HA HB:Nat}{tn:Int}{tt:Bool}{o:Option (Nat×Nat)}(h:mU w D bT a b HA HB)
  (HTO:Hid (Calls Tryz.prog 70 #[.agg #[.int .i64 a.spot,.bool a.wr,.int .i64 a.kind,.int .i64 a.num,.int .u64 a.things],.agg #[.int .i64 b.spot,.bool b.wr,.int .i64 b.kind,.int .i64 b.num,.int .u64 b.things]] D.drew fun r w'=>r=.returned (.tuple #[.int .i64 tn,.bool tt])∧Below D.drew.heap.size D.drew w'))
  (HRO:Hid (∀W,Below w.heap.size w W→Calls Tryz.prog 71 #[ak bT,.int .i64 a.spot,.int .i64 b.spot] W fun r w'=>r=.returned (vq o)∧Below W.heap.size W w'))
  (HNU:Hid (∀s W,s< bI→Below w.heap.size w W→Calls Tryz.prog 72 #[.int .u64 s] W fun r w'=>∃v,r=.returned v∧w'.ownsRow W.heap.size 3 1 v (els s).length (bV (els s))∧Below W.heap.size W w')) (hHA:HA< bI) (hHB:HB< bI):
  Calls Tryz.prog 49 #[ak bT,.agg #[.int .i64 a.spot,.bool a.wr,.int .i64 a.kind,.int .i64 a.num,.int .u64 a.things],.agg #[.int .i64 b.spot,.bool b.wr,.int .i64 b.kind,.int .i64 b.num,.int .u64 b.things]] w fun r w'=>gE w.heap.size (mX a b HA HB (tn,tt) o) r w'∧Below w.heap.size w w':=by
 by_cases he:((!a.wr&&!b.wr)||dg HA HB !=0)=true
 ·rw[xB he]
  rcases zi he with⟨ea,eb⟩|⟨ea,eb,hu⟩|⟨ea,hu⟩
  ·exact AQ h ea eb
  ·exact AP h ea eb (vu hu)
  ·exact AO h ea (vu hu)
 ·obtain⟨hu,hwr⟩:=zh he
  have hu0:=zj hu
  cases tt with
  |false=>
   rw[zm he]
   cases o with
   |none=>exact vw h hwr (Or.inl rfl) hu0 HTO HRO
   |some z=>exact vw h hwr (Or.inl rfl) hu0 HTO HRO
  |true=>
   cases o with
   |none=>
    rw[zl he]
    exact vw h hwr (Or.inr ⟨rfl,rfl⟩) hu0 HTO HRO
   |some z=>
    rw[zk he]
    exact AM h hwr hu0 HTO HRO HNU hHA hHB
theorem BU{w:World}{bT bR:Nat}{x:Rp}{held about:List Nat}{a b:Nat}(h:aP w bR x)(ht:fQ w bT bR held about)(ok:ei x)(ag:jH x)(hg:0< w.heap.size)(hT:Tz w)(ha:a< x.stmts.length)(hb:b< x.stmts.length)(hm:x.starts.length< 60)(hn:x.runs.length=x.starts.length+1)(hst:x.stmts.length≤53):
  Calls Tryz.prog 71 #[ak bT,.int .i64 a,.int .i64 b] w fun r w'=>r=.returned (vq (x.rootsOf about a b))∧Below w.heap.size w w':=by
 have H:=zA h ht ok ag hg hT ha hb hm hn hst
 rw[rG]
 generalize gJ (fun ra rb=>x.atATimeOf about ra a rb b) (els (x.runByOf (x.st a).fn)) (els (x.runByOf (x.st b).fn))=o at H⊢
 cases o<;>exact H
theorem xN{w:World}{bT bR:Nat}{x:Rp}{held about:List Nat}{a b:Ac}(h:aP w bR x)(ht:fQ w bT bR held about)(ok:ei x)(ag:jH x)(hg:0< w.heap.size)(hT:Tz w)(ha:a.spot< x.stmts.length)(hb:b.spot< x.stmts.length)(hm:x.starts.length< 60)(hn:x.runs.length=x.starts.length+1)(hst:x.stmts.length≤53)(hw:Wd 53 held):
  Calls Tryz.prog 49 #[ak bT,.agg #[.int .i64 a.spot,.bool a.wr,.int .i64 a.kind,.int .i64 a.num,.int .u64 a.things],.agg #[.int .i64 b.spot,.bool b.wr,.int .i64 b.kind,.int .i64 b.num,.int .u64 b.things]] w fun r w'=>gE w.heap.size (x.repOf held about a b) r w'∧Below w.heap.size w w':=by
 obtain⟨D,hD⟩:=AN (a:=a) (b:=b) ht (Nat.lt_of_lt_of_le ha hst) (Nat.lt_of_lt_of_le hb hst)
 rw[xC]
 have HTO:=zo (w:=D.drew) a b (hT.below hD.kD.drew)
 have HRO:=fun(W:World) (kk:Below w.heap.size w W)=>BU (h.keep kk) (ht.keep kk) ok ag (Nat.lt_of_lt_of_le hg kk.size) (hT.below kk) ha hb hm hn hst
 generalize x.rootsOf about a.spot b.spot=o at HRO⊢
 generalize jy a b=tf at HTO⊢
 obtain⟨tn,tt⟩:=tf
 exact BJ hD HTO HRO (fun s W hs kk=>vz s hs (Nat.lt_of_lt_of_le hg kk.size) (hT.below kk)) (td hw (Nat.lt_of_lt_of_le ha hst)) (td hw (Nat.lt_of_lt_of_le hb hst))
end
section
set_option maxHeartbeats 1000000
open Go.RowKit Go.Shelf
attribute [local go_sem] Oper.semAt_some
theorem zC(n:Nat)(bT:Nat)(w:World):
  CallsIn Fence.wide n Tryz.prog 48 #[ak bT] w fun e w'=>e=.returned (.func (.func 69) #[] #[.pointer (some ⟨w.heap.size,0,none⟩)])∧w'=w.alloc (.cells #[ak bT] 136):=by
 refine callsIn_of_wp Tryz.func48 rfl trivial ?_ rfl
 simp only[Tryz.ntmps48,List.size_toArray,List.length_cons,List.length_nil,Nat.reduceAdd,Nat.reduceSub,Array.replicate_succ,Array.replicate_zero,List.push_toArray,List.append_toArray,List.nil_append,List.cons_append]
 gi_wp2
 go_ret
 exact⟨rfl,rfl⟩
theorem BP(n:Nat)(bF:Nat)(w:World):
  CallsIn Fence.wide n Tryz.prog 34 #[ak bF] w fun e w'=>e=.returned (.func (.func 46) #[] #[.pointer (some ⟨w.heap.size,0,none⟩)])∧w'=w.alloc (.cells #[ak bF] 116):=by
 refine callsIn_of_wp Tryz.func34 rfl trivial ?_ rfl
 simp only[Tryz.ntmps34,List.size_toArray,List.length_cons,List.length_nil,Nat.reduceAdd,Nat.reduceSub,Array.replicate_succ,Array.replicate_zero,List.push_toArray,List.append_toArray,List.nil_append,List.cons_append]
 gi_wp2
 go_ret
 exact⟨rfl,rfl⟩
def dh:List Ac→List (Ac×Ac)
 |[]=>[]
 |a::l=>(a::l).map (fun b=>(a,b))++dh l
end
section
set_option maxRecDepth 100000
set_option maxHeartbeats 2000000
open Go.RowKit Go.Shelf
attribute [local go_sem] Oper.semAt_some
def BH(t:TypeId)(cur:Array Value):Prop:=(cur.size=1∧(t=24∨t=4))∨(t=36∧cur.size%8=0)
structure KC(A B:World):Prop where
 size:A.heap.size≤B.heap.size
 tab:∀(cur:Array Value) (t:TypeId) (fr:Nat×Nat),A.heap[0]?=some (Obj.cells cur t fr)→B.heap[0]?=some (Obj.cells cur t fr)
 cs:∀(k:Nat) (cur:Array Value) (t:TypeId) (fr:Nat×Nat),A.heap[k]?=some (Obj.cells cur t fr)→¬BH t cur→B.heap[k]?=some (Obj.cells cur t fr)
theorem KC.trans{A B C:World}(h:KC A B)(k:KC B C):KC A C:=⟨Nat.le_trans h.size k.size,fun c t f e=>k.tab c t f (h.tab c t f e),fun i c t f e n=>k.cs i c t f (h.cs i c t f e n) n⟩
theorem KC.of_below{A B:World}(h:Below A.heap.size A B):KC A B:=⟨h.size,fun _ _ _ e=>(h.block _ (Array.getElem?_eq_some_iff.1 e).1).trans e,fun i _ _ _ e _=>(h.block i (Array.getElem?_eq_some_iff.1 e).1).trans e⟩
theorem KC.refl(A:World):KC A A:=KC.of_below (Below.refl _ A)
theorem KC.putObj(W:World)(l:Nat)(o o':Obj)(hl:W.heap[l]?=some o)(ho:o.isCells=false):KC W (W.putObj l o'):=by
 have ne:∀(k:Nat) (cur:Array Value) (t:TypeId) (fr:Nat×Nat),W.heap[k]?=some (Obj.cells cur t fr)→(W.putObj l o').heap[k]?=some (Obj.cells cur t fr):=fun k cur t fr e=>by
  have hne:l≠k:=fun h=>by subst h;rw[hl]at e;cases e;cases ho
  rw[←e]
  exact World.putObj_heap_other (fun h=>hne h.symm)
 exact⟨by simp,fun c t f e=>ne _ c t f e,fun k c t f e _=>ne k c t f e⟩
theorem qS{w:World}{b j:Nat}{v:Value}(h:w.cell? ⟨b,j,none⟩=some v):∃cur t fr,w.heap[b]?=some (Obj.cells cur t fr):=by
 unfold World.cell? at h
 cases ho:w.heap[b]? with
 |none=>simp[ho]at h
 |some o=>cases o<;>simp_all
theorem KC.blk{A B:World}{b:Nat}{arr:Array Value}(k:KC A B)(h:an A b arr)(h1:arr.size%8≠0)(h2:arr.size≠1):an B b arr:=by
 have h0:0< arr.size:=by omega
 obtain⟨cur,t,fr,e⟩:=qS (w:=A) (b:=b) (j:=0) (v:=arr[0]) (by rw[h.cell 0,Array.getElem?_eq_getElem h0])
 have hc:cur=arr:=by
  apply Array.ext_getElem?
  intro i
  have:=h.cell i
  simpa[World.cell?,e]using this
 have e2:=k.cs b cur t fr e (fun h=>by rw[hc]at h;rcases h with⟨h,_⟩|⟨_,h⟩<;>omega)
 refine⟨fun j=>?_,fun j=>?_,(Array.getElem?_eq_some_iff.1 e2).1⟩
 ·have:=h.cell j
  simp only[World.cell?,e,e2]at this⊢
  exact this
 ·have:=h.fz j
  simp only[World.frozen?,e,e2]at this⊢
  exact this
theorem KC.own{A B:World}{base e size n:Nat}{v:Value}{xs:List Value}(k:KC A B)(h:A.ownsRow base e size v n xs)(h1:e≠24)(h2:e≠4)(h3:e≠36):B.ownsRow base e size v n xs:=by
 obtain⟨hl,hh⟩:=h
 refine⟨hl,?_⟩
 rcases hh with hh|⟨g,cap,cur,e1,hB,hg,r⟩
 ·exact .inl hh
 ·exact .inr ⟨g,cap,cur,e1,hB,k.cs g cur e _ hg (fun h=>by rcases h with⟨_,h|h⟩|⟨h,_⟩<;>contradiction),r⟩
theorem KC.tz{A B:World}(k:KC A B)(h:Tz A):Tz B:=fun j hj=>by
 have hc:=h j hj
 obtain⟨cur,t,fr,e⟩:=qS hc
 have e2:=k.tab cur t fr e
 rw[←hc]
 simp only[World.cell?,e,e2]
theorem KC.fs{A B:World}{sv:Value}{l:List Fs}(k:KC A B)(h:sW A sv l):sW B sv l:=by
 obtain⟨bs,h1,h2,h3⟩:=h.ex
 refine⟨bs,h1,k.own h2 (by decide) (by decide) (by decide),fun j b s hb hs=>?_⟩
 obtain⟨sr,sb,h4,h5⟩:=h3 j b s hb hs
 exact⟨sr,sb,k.blk h4 (by simp[aK]) (by simp[aK]),k.own h5 (by decide) (by decide) (by decide)⟩
theorem KC.rp{A B:World}{bR:Nat}{x:Rp}(k:KC A B)(h:aP A bR x):aP B bR x:=by
 obtain⟨bv,sv,tv,rv,lv,h1,h2,h3,h4,h5,h6⟩:=h.ex
 exact⟨bv,sv,tv,rv,lv,k.blk h1 (by simp) (by simp),k.own h2 (by decide) (by decide) (by decide),k.fs h3,k.own h4 (by decide) (by decide) (by decide),k.own h5 (by decide) (by decide) (by decide),k.own h6 (by decide) (by decide) (by decide)⟩
theorem KC.rt{A B:World}{bT bR:Nat}{held about:List Nat}(k:KC A B)(h:fQ A bT bR held about):fQ B bT bR held about:=by
 obtain⟨av,h1⟩:=h.ex
 have:=h.lh
 have:=h.la
 exact⟨⟨av,k.blk h1 (by simp[ar];omega) (by simp[ar];omega)⟩,h.lh,h.la⟩
theorem yE{l:List Ac}{k:Nat}{a:Ac}(h:l[k]?=some a):(iA l)[k*5]?=some (.int .i64 a.spot)∧(iA l)[k*5+1]?=some (.bool a.wr)∧(iA l)[k*5+2]?=some (.int .i64 a.kind)∧(iA l)[k*5+3]?=some (.int .i64 a.num)∧(iA l)[k*5+4]?=some (.int .u64 a.things):=by
 induction l generalizing k with
 |nil=>simp at h
 |cons b l ih=>
  have e:iA (b::l)=yF b++iA l:=rfl
  have hl:(yF b).length=5:=rfl
  cases k with
  |zero=>
   simp at h
   subst h
   exact⟨rfl,rfl,rfl,rfl,rfl⟩
  |succ k=>
   have:=ih (k:=k) (by simpa using h)
   have ek:(k+1)*5=5+k*5:=by omega
   rw[e,ek]
   refine⟨?_,?_,?_,?_,?_⟩
   ·rw[List.getElem?_append_right (by omega),hl,show 5+k*5-5=k*5 by omega];exact this.1
   ·rw[List.getElem?_append_right (by omega),hl,show 5+k*5+1-5=k*5+1 by omega];exact this.2.1
   ·rw[List.getElem?_append_right (by omega),hl,show 5+k*5+2-5=k*5+2 by omega];exact this.2.2.1
   ·rw[List.getElem?_append_right (by omega),hl,show 5+k*5+3-5=k*5+3 by omega];exact this.2.2.2.1
   ·rw[List.getElem?_append_right (by omega),hl,show 5+k*5+4-5=k*5+4 by omega];exact this.2.2.2.2
theorem cZ{w:World}{B e size n g c:Nat}{xs:List Value}(h:w.ownsRow B e size (.slice (some ⟨g,0,none⟩) n c) n xs){i:Nat}{v:Value}(hv:xs[i]?=some v):w.cell? ⟨g,i,none⟩=some v:=by
 obtain⟨hl,hh⟩:=h
 rcases hh with⟨e1,_⟩|⟨g',cap,cur,e1,hB,hg,hn,hm,hs,ht⟩
 ·cases e1
 ·cases e1
  have:cur[i]?=some v:=by
   rw[←ht,List.getElem?_take]at hv
   split at hv
   ·rw[←hv,Array.getElem?_toList]
   ·cases hv
  simp only[World.cell?,hg]
  exact this
structure ru(W:World)(Bn bT g c:Nat)(acs:List Ac):Prop where
 bx:W.heap[Bn]?=some (.cells #[ak bT] 136 (0,0))
 rt:∃arr:Array Value,an W bT arr∧arr.size=108∧arr[1]?=some (.slice (some ⟨g,0,none⟩) acs.length c)
 row:W.ownsRow 0 146 5 (.slice (some ⟨g,0,none⟩) acs.length c) acs.length (iA acs)
theorem ru.box{W:World}{Bn bT g c:Nat}{acs:List Ac}(h:ru W Bn bT g c acs):W.cell? ⟨Bn,0,none⟩=some (ak bT):=(af h.bx).cell 0
theorem ru.sl{W:World}{Bn bT g c:Nat}{acs:List Ac}(h:ru W Bn bT g c acs):W.cell? ⟨bT,1,none⟩=some (.slice (some ⟨g,0,none⟩) acs.length c):=by
 obtain⟨arr,h1,_,h2⟩:=h.rt
 exact(h1.cell 1).trans h2
theorem ru.at'{W:World}{Bn bT g c:Nat}{acs:List Ac}(h:ru W Bn bT g c acs)(k:Nat)(a:Ac)(e:acs[k]?=some a):W.cell? ⟨g,k*5,none⟩=some (.int .i64 a.spot)∧W.cell? ⟨g,k*5+1,none⟩=some (.bool a.wr)∧W.cell? ⟨g,k*5+2,none⟩=some (.int .i64 a.kind)∧W.cell? ⟨g,k*5+3,none⟩=some (.int .i64 a.num)∧W.cell? ⟨g,k*5+4,none⟩=some (.int .u64 a.things):=by
 obtain⟨a0,a1,a2,a3,a4⟩:=yE e
 exact⟨cZ h.row a0,cZ h.row a1,cZ h.row a2,cZ h.row a3,cZ h.row a4⟩
theorem ru.kc{W W':World}{Bn bT g c:Nat}{acs:List Ac}(h:ru W Bn bT g c acs)(k:KC W W'):ru W' Bn bT g c acs:=by
 obtain⟨arr,h1,h2,h3⟩:=h.rt
 refine⟨k.cs _ _ _ _ h.bx (fun h=>?_),⟨arr,k.blk h1 (by omega) (by omega),h2,h3⟩,k.own h.row (by decide) (by decide) (by decide)⟩
 rcases h with⟨_,h|h⟩|⟨h,_⟩<;>revert h<;>decide
theorem ru.low{W W':World}{Bn bT g c:Nat}{acs:List Ac}(h:ru W Bn bT g c acs)(k:Below W.heap.size W W'):ru W' Bn bT g c acs:=h.kc (KC.of_below k)
def cL(acs:List Ac)(i j:Nat):List (Ac×Ac):=(List.range i).flatMap (fun k=>(acs.drop k).map (fun b=>(acs.getD k {},b)))++((acs.drop i).take j).map (fun b=>(acs.getD i {},b))
theorem iq{acs:List Ac}{k j:Nat}{a b:Ac}(ha:acs[k]?=some a)(hb:acs[k+j]?=some b):cL acs k (j+1)=cL acs k j++[(a,b)]:=by
 unfold cL
 have e:acs.getD k {}=a:=by rw[List.getD_eq_getElem?_getD,ha];rfl
 have hb':(acs.drop k)[j]?=some b:=by rw[List.getElem?_drop];exact hb
 rw[List.take_add_one,hb',List.map_append,←List.append_assoc]
 simp[e,ha]
theorem kL{acs:List Ac}{k:Nat}:cL acs k (acs.length-k)=cL acs (k+1) 0:=by
 unfold cL
 rw[List.range_succ,List.flatMap_append,List.take_of_length_le (by simp)]
 simp
theorem oS(a:Ac)(l:List Ac)(k:Nat):cL (a::l) (k+1) 0=(a::l).map (fun b=>(a,b))++cL l k 0:=by
 unfold cL
 rw[List.range_succ_eq_map,List.flatMap_cons,List.flatMap_map]
 simp
theorem kN(acs:List Ac):cL acs acs.length 0=dh acs:=by
 induction acs with
 |nil=>rfl
 |cons a l ih=>rw[List.length_cons,oS,ih];rfl
theorem jQ(acs:List Ac)(k j:Nat):cL acs k j<+:cL acs (k+1) 0:=by
 rw[←kL]
 unfold cL
 rw[List.take_of_length_le (l:=acs.drop k) (i:=acs.length-k) (by simp)]
 exact(List.prefix_append_right_inj _).2 (List.IsPrefix.map _ (List.take_prefix _ _))
theorem oR(acs:List Ac)(k:Nat):∀m,cL acs k 0<+:cL acs (k+m) 0:=by
 intro m
 induction m with
 |zero=>exact List.prefix_refl _
 |succ m ih=>exact ih.trans (jQ acs (k+m) 0)
theorem kM{acs:List Ac}{k j:Nat}(hk:k< acs.length):cL acs k j<+:dh acs:=by
 refine(jQ acs k j).trans ?_
 have:=oR acs (k+1) (acs.length-(k+1))
 rw[show k+1+(acs.length-(k+1))=acs.length by omega,kN]at this
 exact this
theorem rM{acs:List Ac}{k j:Nat}{a b:Ac}(hm:(dh acs).length≤4000)(ha:acs[k]?=some a)(hb:acs[k+j]?=some b):(cL acs k j).length< 4000:=by
 have hk:k< acs.length:=(List.getElem?_eq_some_iff.1 ha).1
 have h:=(kM (j:=j+1) hk).length_le
 rw[iq ha hb,List.length_append]at h
 simp at h
 omega
theorem zy(n:Nat)(hn:1≤n)(l Bn bT g c:Nat)(acs:List Ac)(hm:(dh acs).length≤4000)(hne:acs.length≠0)(hc:acs.length≤c)(hcm:acs.length< 1000)(W:World)(J Jx:List (Ac×Ac)→World→Prop)(hJ:AbidesFrom W.heap.size J)
  (hY:∀pre x W1,J pre W1→x.1∈acs→x.2∈acs→pre.length< 4000→YieldAt Fence.wide (n-1) Tryz.prog l #[.agg #[.int .i64 x.1.spot,.bool x.1.wr,.int .i64 x.1.kind,.int .i64 x.1.num,.int .u64 x.1.things],.agg #[.int .i64 x.2.spot,.bool x.2.wr,.int .i64 x.2.kind,.int .i64 x.2.num,.int .u64 x.2.things]] W1 fun e W'=>
   (e=.returned (.bool true)∧J (pre++[x]) W'∧KC W1 W')∨(e=.returned (.bool false)∧Jx (pre++[x]) W'))
  (hS:ru W Bn bT g c acs) (h0:J [] W):
  CallsIn Fence.wide n Tryz.prog 69 #[.func (.yield l) #[] #[],.pointer (some ⟨Bn,0,none⟩)] W fun e W'=>(∃v,e=.returned v)∧
   ((∃ys,ys=dh acs∧J ys W')∨(∃pre,pre<+:dh acs∧Jx pre W')):=by
 have HYY:=aa hY
 have HS:=aa hS
 have e0:=hS.box
 have e1:=hS.sl
 have HJ:=aa hJ
 clear hY hS hJ
 refine callsIn_of_wp Tryz.func69 rfl trivial ?_ rfl
 simp only[Tryz.ntmps69,List.size_toArray,List.length_cons,List.length_nil,Nat.reduceAdd,Nat.reduceSub,Array.replicate_succ,Array.replicate_zero,List.push_toArray,List.append_toArray,List.nil_append,List.cons_append]
 gi_wp2
 gi_loopw [12] (fun i wr=>∃k:Nat,i=.int .i64 k∧k≤acs.length∧Hid (J (cL acs k 0) wr)∧Hid (ru wr Bn bT g c acs)∧W.heap.size≤wr.heap.size) (fun i _=>acs.length-(intOf i).toNat)
 case atStart=>exact⟨0,rfl,Nat.zero_le _,h0,HS,Nat.le_refl _⟩
 case round=>
  obtain⟨k,rfl,hk,HJk,HSk,hz⟩:=hrel
  obtain⟨wo,hwo⟩:∃x,x=wr:=⟨_,rfl⟩
  subst hwo
  by_cases hkl:k=acs.length
  ·have hlt:¬((k:Int)< acs.length):=by omega
   gi_wp2
   go_end0
   have hX:=HJk.out
   rw[hkl,kN]at hX
   exact⟨⟨_,rfl⟩,.inl hX⟩
  ·have hlt:(k:Int)< acs.length:=by omega
   obtain⟨a,ha⟩:∃a,acs[k]?=some a:=⟨_,List.getElem?_eq_getElem (by omega)⟩
   have hk0:(0:Int)≤k:=by omega
   obtain⟨a0,a1,a2,a3,a4⟩:=HSk.out.at' k a ha
   have f0:=HSk.out.box
   have f1:=HSk.out.sl
   have k6:Below wo.heap.size wo (wo.alloc (.cells #[.int .i64 a.spot,.bool a.wr,.int .i64 a.kind,.int .i64 a.num,.int .u64 a.things] 146)):=(Below.refl _ wo).alloc (Nat.le_refl _) _
   have HS6:=aa (HSk.out.low k6)
   have t0:=HS6.out.box
   have t1:=HS6.out.sl
   have hkc:(k:Int)≤c:=by omega
   clear hkl k6
   gi_wp2
   gi_loopw [24] (fun i wq=>∃j:Nat,i=.int .i64 j∧j≤acs.length-k∧Hid (J (cL acs k j) wq)∧Hid (ru wq Bn bT g c acs)∧W.heap.size≤wq.heap.size∧Hid (wq.heap[wo.heap.size]?=some (.cells #[.int .i64 a.spot,.bool a.wr,.int .i64 a.kind,.int .i64 a.num,.int .u64 a.things] 146 (0,0)))) (fun i _=>acs.length-(intOf i).toNat)
   case atStart=>exact⟨0,rfl,Nat.zero_le _,HJ.out _ _ _ none HJk.out (World.grownBy_alloc _ _ none) (by simp),HS6,by simp;omega,heap_alloc_new _ _⟩
   case round=>
    obtain⟨j,rfl,hj,HJj,HSj,hzj,HAj⟩:=hrel
    by_cases hjl:j=acs.length-k
    ·have hlt2:¬((j:Int)< (acs.length-k:Nat)):=by omega
     gi_wp2
     rw[hjl,kL]at HJj
     exact⟨⟨k+1,by simp,by omega,HJj,HSj,hzj⟩,by simp[intOf];omega⟩
    ·have hlt2:(j:Int)< (acs.length-k:Nat):=by omega
     obtain⟨b,hb⟩:∃b,acs[k+j]?=some b:=⟨_,List.getElem?_eq_getElem (by omega)⟩
     obtain⟨b0,b1,b2,b3,b4⟩:=HSj.out.at' (k+j) b hb
     have hj0:(0:Int)≤j:=by omega
     rw[Nat.add_mul]at b0 b1 b2 b3 b4
     have hza:=af HAj.out
     have k7:Below wr.heap.size wr (wr.alloc (.cells #[.int .i64 b.spot,.bool b.wr,.int .i64 b.kind,.int .i64 b.num,.int .u64 b.things] 146)):=(Below.refl _ wr).alloc (Nat.le_refl _) _
     have c0:=(k7.cell (p:=⟨wo.heap.size,0,none⟩) hza.lt).trans (hza.cell 0)
     have c1:=(k7.cell (p:=⟨wo.heap.size,1,none⟩) hza.lt).trans (hza.cell 1)
     have c2:=(k7.cell (p:=⟨wo.heap.size,2,none⟩) hza.lt).trans (hza.cell 2)
     have c3:=(k7.cell (p:=⟨wo.heap.size,3,none⟩) hza.lt).trans (hza.cell 3)
     have c4:=(k7.cell (p:=⟨wo.heap.size,4,none⟩) hza.lt).trans (hza.cell 4)
     have hlw:=hza.lt
     obtain⟨fn,tmps,assign,body,hy,hR⟩:=HYY.out (cL acs k j) (a,b) (wr.alloc (.cells #[.int .i64 b.spot,.bool b.wr,.int .i64 b.kind,.int .i64 b.num,.int .u64 b.things] 146)) (HJ.out _ _ _ none HJj.out (World.grownBy_alloc _ _ none) (by simp)) (List.mem_of_getElem? ha) (List.mem_of_getElem? hb) (rM hm ha hb)
     dsimp only at hy
     have HR:=aa hR
     have HK7:=aa k7
     clear hR k7
     clear hjl hza
     gi_wp2
     refine HR.out.mono ?_
     rintro e W3 (⟨rfl,hJ3,hk3⟩|⟨rfl,hJx3⟩)
     ·rw[←iq ha hb]at hJ3
      have HJ3:=aa hJ3
      have HS3:=aa ((HSj.out.low HK7.out).kc hk3)
      have HA3:=aa (hk3.cs _ _ _ _ ((HK7.out.block _ hlw).trans HAj.out) (fun h=>by rcases h with⟨_,h|h⟩|⟨h,_⟩<;>revert h<;>decide))
      have hz3:W.heap.size≤W3.heap.size:=Nat.le_trans hzj (Nat.le_trans HK7.out.size hk3.size)
      clear hJ3 hk3
      gi_wp2
      exact⟨⟨j+1,by simp,by omega,HJ3,HS3,hz3,HA3⟩,by simp[intOf];omega⟩
     ·have HJ3:=aa hJx3
      clear hJx3
      gi_wp2
      refine bodyPost_ret (results_none rfl _ _ _) rfl ?_
      refine⟨⟨_,rfl⟩,.inr ⟨cL acs k j++[(a,b)],?_,HJ3.out⟩⟩
      rw[←iq ha hb]
      exact kM (List.getElem?_eq_some_iff.1 ha).1
abbrev BE(acs:List Ac):={p:Ac×Ac//p.1∈acs∧p.2∈acs}
theorem rN(n:Nat)(hn:1≤n)(Bn bT g c:Nat)(acs:List Ac)(hm:(dh acs).length≤4000)(hne:acs.length≠0)(hc:acs.length≤c)(hcm:acs.length< 1000)(w:World)(hS:ru w Bn bT g c acs):
  SeqStopsK Fence.wide n Tryz.prog 69 #[.pointer (some ⟨Bn,0,none⟩)] (fun x:BE acs=>#[.agg #[.int .i64 x.1.1.spot,.bool x.1.1.wr,.int .i64 x.1.1.kind,.int .i64 x.1.1.num,.int .u64 x.1.1.things],.agg #[.int .i64 x.1.2.spot,.bool x.1.2.wr,.int .i64 x.1.2.kind,.int .i64 x.1.2.num,.int .u64 x.1.2.things]]) KC (fun ys=>ys.map (·.1)=dh acs) (fun pre=>pre.map (·.1)<+:dh acs) 4000 w:=fun l J Jx W hW hJ _ hY h0=>by
 refine(zy n hn l Bn bT g c acs hm hne hc hcm W (fun pre W=>∃q:List (BE acs),q.map (·.1)=pre∧J q W) (fun pre W=>∃q:List (BE acs),q.map (·.1)=pre∧Jx q W) ?_ ?_ (hS.low hW) ⟨[],rfl,h0⟩).mono ?_
 ·rintro s A B row ⟨q,e,h⟩ hg hr
  exact⟨q,e,hJ q A B row h hg hr⟩
 ·rintro pre x W1 ⟨q,rfl,h⟩ h1 h2 hl
  rw[List.length_map]at hl
  obtain⟨fn,tmps,assign,body,hy,hR⟩:=hY q ⟨x,h1,h2⟩ W1 h hl
  refine⟨fn,tmps,assign,body,hy,hR.mono ?_⟩
  rintro e W' (⟨e1,h3,h4⟩|⟨e1,h3⟩)
  ·exact .inl ⟨e1,⟨_,by simp,h3⟩,h4⟩
  ·exact .inr ⟨e1,⟨_,by simp,h3⟩⟩
 ·rintro e W' ⟨h1,⟨ys,rfl,q,e,h2⟩|⟨pre,hp,q,rfl,h2⟩⟩
  ·exact⟨h1,.inl ⟨q,e,h2⟩⟩
  ·exact⟨h1,.inr ⟨q,hp,h2⟩⟩
theorem zx{w:World}{Bn bT bR g c B:Nat}{held about:List Nat}{acs:List Ac}(hb:w.heap[Bn]?=some (.cells #[ak bT] 136 (0,0)))(ht:fQ w bT bR held about)(hs:w.cell? ⟨bT,1,none⟩=some (.slice (some ⟨g,0,none⟩) acs.length c))(ho:w.ownsRow B 146 5 (.slice (some ⟨g,0,none⟩) acs.length c) acs.length (iA acs)):ru w Bn bT g c acs:=by
 obtain⟨av,h1⟩:=ht.ex
 have:=ht.lh
 have:=ht.la
 refine⟨hb,⟨_,h1,by simp[ar];omega,(h1.cell 1).symm.trans hs⟩,cQ ho 0 (Nat.zero_le _)⟩
end
section
open Go.RowKit
def Bw{α:Type}(F:Fence)(n:Nat)(P:Program)(g:Nat)(lb:Array Value)(encs:α→Array Value)(Kp:World→World→Prop)(G:α→World→Prop)(S:List α→Prop)(N:Nat)(w:World):Prop:=
 ∀(l:Nat) (J:List α→World→Prop) (W:World),Below w.heap.size w W→OwnFrom W.heap.size J→
  (∀pre x W1,J pre W1→G x W1→pre.length< N→YieldAt F (n-1) P l (encs x) W1 fun e W'=>e=.returned (.bool true)∧J (pre++[x]) W'∧Kp W1 W'∧KeepsFrom W.heap.size W1 W')→
  J [] W→CallsIn F n P g (#[.func (.yield l) #[] #[]]++lb) W fun e W'=>(∃v,e=.returned v)∧∃xs,S xs∧J xs W'
theorem zn{F:Fence}{n:Nat}{P:Program}{α:Type}{g:Operand}{ps:Array Tmp}{assign body:Code}{Q:Exit→Act→World→Prop}{a:Act}{w:World}
  (hro:F.round=none) (h1:1≤n) {gf:Nat} {lb:Array Value} (hg:a.eval g=.func (.func gf) #[] lb) (hFg:F.fn gf) (eg:∀args w,(callFunc gf args).run P w=.ok (.enter gf args) w)
  {encs:α→Array Value} {Kp:World→World→Prop} {G:α→World→Prop} {S:List α→Prop} {N:Nat} {w0:World} (hseq:Bw F (n-1) P gf lb encs Kp G S N w0)
  (hKt:∀{A B C:World},Kp A B→Kp B C→Kp A C) (hKb:∀(W:World) (l:Nat) (o o':Obj),W.heap[l]?=some o→o.isCells=false→Kp W (W.putObj l o')) (hb0:Below w0.heap.size w0 w) (hps:∀x,(encs x).size=ps.size)
  (I:List α→World→Prop) (hI:OwnFrom w.heap.size I) (h0:I [] w) (Ax:α→Act→World→Prop) (hAx:∀x a',OwnFrom w.heap.size (fun(_:Unit) W=>Ax x a' W))
  (hassign:∀(l:Nat) (pre:List α) (x:α) (W:World) (K:Act→World→Prop),I pre W→G x W→(∀a' W',KeepsFrom w.heap.size W W'→Kp W W'→I pre W'→Ax x a' W'→K a' W')→
   assign.wpIn (F.inRound l) (n-1-1) P (Exit.then K (fun _ _ _=>False)) {tmps:=(ps.zip (encs x)).foldl (fun t (p,v)=>t.setIfInBounds p v) a.tmps,defers:=[]} W)
  (hbody:∀(l:Nat) (pre:List α) (x:α) (a':Act) (W:World),w.heap.size≤l→I pre W→Ax x a' W→pre.length< N→body.wpIn (F.inRound l) (n-1-1) P (ownPostG w.heap.size Kp I (fun _ _ _=>False) (pre++[x]) W) a' W)
  (hdone:∀(D:Nat) (xs:List α) (W:World),w.heap.size≤D→S xs→I xs W→W.heap[D]?=some (.deferred (some []))→Q .normal {a with defers:={target:=.collected D,args:=#[]}::a.defers} W):
  (Code.rangeFunc g ps assign body).wpIn F n P Q a w:=by
 refine wpIn_rangeFunc fun fn hfn=>?_
 rw[hro]
 obtain⟨R,hR⟩:∃R:LoopState→Loop,R=fun st=>{state:=st,pending:=none,fn,tmps:=a.tmps,params:=ps,assign,body,defers:=w.heap.size}:=⟨_,rfl⟩
 obtain⟨w1,e1⟩:∃w1,w1=w.alloc (.deferred (some [])):=⟨_,rfl⟩
 obtain⟨w2,e2⟩:∃w2,w2=w1.alloc (.loop (R .ready)):=⟨_,rfl⟩
 have s1:w1.heap.size=w.heap.size+1:=by rw[e1];simp
 have s2:w2.heap.size=w.heap.size+2:=by rw[e2];simp[s1]
 have d1:w1.heap[w.heap.size]?=some (.deferred (some [])):=by rw[e1];exact World.alloc_heap_new w _
 have d2:w2.heap[w.heap.size]?=some (.deferred (some [])):=by rw[e2];exact(Below.heap_alloc _ _ _ (by omega)).trans d1
 have r2:w2.heap[w.heap.size+1]?=some (.loop (R .ready)):=by rw[e2,←s1];exact World.alloc_heap_new w1 _
 have b2:Below w0.heap.size w0 w2:=by
  rw[e2,e1]
  exact hb0.trans ((((Below.refl _ w).alloc (Nat.le_refl _) _).alloc (by simp) _).mono hb0.size)
 have i2:I [] w2:=by rw[e2,e1];exact hI.alloc _ (hI.alloc _ h0)
 refine⟨w.heap.size+1,[{target:=.collected w.heap.size,args:=#[]}],w2,{target:=.fn (.func gf) lb,args:=#[.func (.yield (w.heap.size+1)) #[] #[]]},w2,gf,#[.func (.yield (w.heap.size+1)) #[] #[]]++lb,w2,?_,?_,?_,?_,fun _=>h1,?_⟩
 ·rw[e2,e1,hR];exact run_enterLoop_outer _ _ _ _ _
 ·simp only[resolve,hg]
  simp[go_sem]
 ·intro f' hf';simp[Target.leads]at hf';subst hf';exact hFg
 ·simp[invoke,go_sem,eg]
 ·have stay:∀{A B:World} {row:Option Nat} {k:Nat} {o:Obj},k< w2.heap.size→A.grownBy B row→(∀r,row=some r→w2.heap.size≤r∧∃o:Obj,A.heap[r]?=some o∧o.isCells=false)→A.heap[k]?=some o→B.heap[k]?=some o:=
   fun hk hgr hr ho=>(hgr.block _ (Array.getElem?_eq_some_iff.1 ho).1 (fun e=>by have:=(hr _ e.symm).1;omega)).trans ho
  have up:∀{A:World} {row:Option Nat},(∀r,row=some r→w2.heap.size≤r∧∃o:Obj,A.heap[r]?=some o∧o.isCells=false)→(∀r,row=some r→w.heap.size≤r∧∃o:Obj,A.heap[r]?=some o∧o.isCells=false):=
   fun hr r e=>⟨by have:=(hr r e).1;omega,(hr r e).2⟩
  refine(hseq (w.heap.size+1) (fun pre W=>I pre W∧W.heap[w.heap.size+1]?=some (.loop (R .ready))∧W.heap[w.heap.size]?=some (.deferred (some []))) w2 b2
   (fun s A B row hs hgr hr=>⟨hI s A B row hs.1 hgr (up hr),stay (by omega) hgr hr hs.2.1,stay (by omega) hgr hr hs.2.2⟩) ?_ ⟨i2,r2,d2⟩).mono ?_
  ·rintro pre x W ⟨hi,hl,hd⟩ hG hlen
   have hy:=run_yield (P:=P) (args:=encs x) hl (by rw[hR];exact hps x)
   rw[hR]at hy
   refine⟨fn,_,assign,body,hy,roundIn_of_wpIn hfn (hassign _ pre x W _ hi hG ?_)⟩
   clear hy
   intro a' V kV pV iV axV
   have lV:=kV.same _ _ (by omega) hl rfl
   have dV:=kV.same _ _ (Nat.le_refl _) hd rfl
   have zV:w.heap.size+1< V.heap.size:=(Array.getElem?_eq_some_iff.1 lV).1
   refine⟨_,run_beginRound lV (by rw[hR]),?_⟩
   obtain⟨V2,eV⟩:∃V2,V2=V.putObj (w.heap.size+1) (.loop {R .ready with state:=.busy}):=⟨_,rfl⟩
   rw[←eV]
   have lV2:V2.heap[w.heap.size+1]?=some (.loop {R .ready with state:=.busy}):=by rw[eV];exact World.putObj_heap_same zV
   have dV2:V2.heap[w.heap.size]?=some (.deferred (some [])):=by rw[eV];exact(World.putObj_heap_other (by omega)).trans dV
   have pV2:Kp V V2:=by rw[eV];exact hKb _ _ _ _ lV rfl
   have kf:∀(X:World) (o o':Obj),X.heap[w.heap.size+1]?=some o→KeepsFrom w2.heap.size X (X.putObj (w.heap.size+1) o'):=fun X o o' _=>⟨by simp,fun k o2 hk h2 _=>(World.putObj_heap_other (by omega)).trans h2⟩
   have kfm:∀{X Y:World},KeepsFrom w.heap.size X Y→KeepsFrom w2.heap.size X Y:=fun h=>⟨h.size,fun k o hk=>h.same k o (by omega)⟩
   have kV2:KeepsFrom w2.heap.size V V2:=by rw[eV];exact kf V _ _ lV
   refine wpIn_mono (hbody _ pre x a' V2 (by omega) (by rw[eV];exact hI.putObj _ iV (by omega) lV rfl) (by rw[eV];exact(hAx x a').putObj (s:=()) _ axV (by omega) lV rfl) hlen) ?_
   intro e a3 X hp
   cases e with
   |normal=>
    obtain⟨kX,pX,iX⟩:=hp
    have lX:=kX.same _ _ (by omega) lV2 rfl
    have dX:=kX.same _ _ (Nat.le_refl _) dV2 rfl
    have zX:w.heap.size+1< X.heap.size:=(Array.getElem?_eq_some_iff.1 lX).1
    have hr:=run_endRound (P:=P) none lX
    have eR:({({R .ready with state:=.busy}:Loop)with state:=(if(none:Option Code).isNone then LoopState.ready else .done),pending:=none}:Loop)=R .ready:=by rw[hR];rfl
    refine⟨_,_,hr,rfl,⟨hI.putObj _ iX (by omega) lX rfl,?_,(World.putObj_heap_other (by omega)).trans dX⟩,hKt pV (hKt pV2 (hKt pX (hKb _ _ _ _ lX rfl))),((kfm kV).trans kV2).trans ((kfm kX).trans (kf X _ _ lX))⟩
    rw[World.putObj_heap_same zX]
    exact congrArg (fun z=>some (Obj.loop z)) eR
   |ret=>exact hp.2.elim
   |exit id=>exact hp.2.elim
   |goto t=>exact hp.2.elim
   |panic ch=>exact hp.elim
   |outgrown=>exact hp.elim
  ·rintro e X ⟨⟨v,rfl⟩,xs,hS,hi,hl,hd⟩
   have hr:=run_endLoop (P:=P) hl (by rw[hR];simp)
   have ep:(R .ready).pending=none:=by rw[hR]
   rw[ep]at hr
   exact⟨none,_,hr,hdone _ xs _ (Nat.le_refl _) hS (hI.putObj _ hi (by omega) hl rfl) ((World.putObj_heap_other (by omega)).trans hd)⟩
end
end Go.Proofs.YtmdaflepdaiabaaGreatDoor
