import Derived.Test.YtmdaflepdaiabaaGreatDoorQ28
set_option linter.unusedSimpArgs false
set_option linter.unusedVariables false
namespace Go.Proofs.YtmdaflepdaiabaaGreatDoor
section
set_option maxRecDepth 100000
set_option maxHeartbeats 4000000
open Go.RowKit Go.Shelf
theorem zW(n:Nat)(hn:n< 4)(w:World):
  Calls Tryz.prog 6 #[.int .i64 0,.int .i64 n] w fun r w'=>∃lv,r=.returned (.agg #[.string ⟨(aX 0 n).toArray⟩,lv])∧∃xs:List dd,xs.map (·.1)=co 0 n∧dS w w' lv xs:=by
 obtain⟨i0,hi,hz0,hz1,hz2⟩:=info_parts ba
 have HT:Hid (∀W,Calls Tryz.prog 10 #[.string ⟨[120,61,49,59].toArray⟩,.int .i64 n] W fun r w'=>r=.returned (.string ⟨(aO n).toArray⟩)∧w'=W):=fun W=>fG _ (by decide) n (by omega) W
 have hil:(aO n).length≤12:=by unfold aO;rw[dD];simp;omega
 go_enter Tryz.func6,Tryz.ntmps6
 go_wp2_with fail
 refine(HT.out _).mono ?_
 rintro q wq ⟨rfl,rfl⟩
 go_wp2_with fail
 simp only[di]
 rw[show([118,97,114,32,103,59,118,97,114,32,104,59,109,117,116,101,120,32,109,59,109,117,116,101,120,32,110,59]:aj)++[102,117,110,99,32,119,40,41,123,103,61,49,59,125,102,117,110,99,32,109,97,105,110,40,41,123]++aO n++[103,111,32,119,40,41,59,103,61,50,59,125]=aX 0 n from rfl]
 obtain⟨W,hW⟩:∃W,W=(w.alloc (.cells #[.string ⟨#[]⟩,.slice none 0 0] 26)).alloc (.cells #[.string ⟨(aX 0 n).toArray⟩,.slice none 0 0] 26):=⟨_,rfl⟩
 have hK:iJ w W ⟨(aX 0 n).toArray⟩ (.slice none 0 0) []:=by rw[hW];exact iJ.start w _
 rw[←hW]
 have HK:=aa hK
 have q1:W.cell? ⟨w.heap.size+1,1,none⟩=some (.slice none 0 0):=(af hK.k7).cell 1
 have lq:=(af hK.k7).lt
 have lq0:w.heap.size< W.heap.size:=by omega
 have lq1:w.heap.size< W.heap.size+1:=by omega
 have hws:=hK.kp.size
 clear hW hK HT
 refine(ft 0 (n+2) 0 1 0 W).mono ?_
 rintro q wq ⟨rfl,rfl⟩
 go_wp2_with (at_builtin;refine aq rfl _ _ 24 rfl w.heap.size 36 i0 (.agg #[.int .i64 0,.int .i64 0,.int .i64 0,.int .i64 0,.int .i64 0,.int .i64 0,.slice none 0 0,.slice none 0 0]) 8 96 Tryz.underlying24 hi hz0 hz1 hz2 rfl (by decide) _ 0 _ rfl (World.ownsRow_nil _ _ _ _) ⟨W.heap.size+1+1,0,none⟩ 1 1 [.int .i64 0,.int .i64 ((n:Int)+2),.int .i64 (-1),.int .i64 0,.int .i64 1,.int .i64 0,.slice none 0 0,.slice none 0 0] rfl rfl (aF _ _ _ _ (by simp)) (by intro u hu;simp at hu;rcases hu with rfl|rfl|rfl|rfl|rfl|rfl|rfl|rfl<;>rfl) (by decide) (by unfold maxLen;decide) (by decide) (by simp;omega) ?_;intro v4 w4 hown4 hgrow4 _;obtain⟨p4,k4,rfl⟩:=ai hown4;obtain⟨hb7,hb4,hK2⟩:=HK.out.app (z:=((⟨0,n+2,-1,0,1,0,[],[]⟩:jp),.slice none 0 0,.slice none 0 0)) ((((Below.refl _ W).alloc (Nat.le_refl _) _).alloc (by simp) _).alloc (by simp;omega) _) (eo.nil _ ⟨rfl,rfl⟩ _) hown4 hgrow4;have e0:w4.cell? ⟨w.heap.size+1,0,none⟩=some _:=hb7.cell 0;have e1:w4.cell? ⟨w.heap.size+1,1,none⟩=some _:=hb7.cell 1;have e2:w4.frozen? ⟨w.heap.size+1,1,none⟩=false:=hb7.fz 1;have e3:=hb7.lt;have d0:w4.cell? ⟨w.heap.size,0,none⟩=some _:=hb4.cell 0;have d1:w4.cell? ⟨w.heap.size,1,none⟩=some _:=hb4.cell 1;have d2:w4.frozen? ⟨w.heap.size,0,none⟩=false:=hb4.fz 0;have d3:w4.frozen? ⟨w.heap.size,1,none⟩=false:=hb4.fz 1;have d4:=hb4.lt;have HK2:=aa hK2;clear hb7 hb4 hK2 hown4 hgrow4)
 go_wp2_with fail
 refine bodyPost_ret (results_cell_row rfl _ _ w.heap.size 26 #[.string ⟨(aX 0 n).toArray⟩,_] (0,0) _ rfl HK2.out.fin.1 Tryz.underlying26 rfl cz) rfl ⟨_,rfl,_,rfl,HK2.out.fin.2⟩
theorem zU(n:Nat)(hn:n< 4)(w:World):
  Calls Tryz.prog 6 #[.int .i64 1,.int .i64 n] w fun r w'=>∃lv,r=.returned (.agg #[.string ⟨(aX 1 n).toArray⟩,lv])∧∃xs:List dd,xs.map (·.1)=co 1 n∧dS w w' lv xs:=by
 obtain⟨i0,hi,hz0,hz1,hz2⟩:=info_parts ba
 have HT:Hid (∀W,Calls Tryz.prog 10 #[.string ⟨[120,61,49,59].toArray⟩,.int .i64 n] W fun r w'=>r=.returned (.string ⟨(aO n).toArray⟩)∧w'=W):=fun W=>fG _ (by decide) n (by omega) W
 have hil:(aO n).length≤12:=by unfold aO;rw[dD];simp;omega
 go_enter Tryz.func6,Tryz.ntmps6
 go_wp2_with fail
 refine(HT.out _).mono ?_
 rintro q wq ⟨rfl,rfl⟩
 go_wp2_with fail
 simp only[di]
 rw[show([118,97,114,32,103,59,118,97,114,32,104,59,109,117,116,101,120,32,109,59,109,117,116,101,120,32,110,59]:aj)++[102,117,110,99,32,119,40,41,123,103,61,49,59,125,102,117,110,99,32,109,97,105,110,40,41,123]++aO n++[103,111,32,119,40,41,59,103,111,32,119,40,41,59,125]=aX 1 n from rfl]
 obtain⟨W,hW⟩:∃W,W=(w.alloc (.cells #[.string ⟨#[]⟩,.slice none 0 0] 26)).alloc (.cells #[.string ⟨(aX 1 n).toArray⟩,.slice none 0 0] 26):=⟨_,rfl⟩
 have hK:iJ w W ⟨(aX 1 n).toArray⟩ (.slice none 0 0) []:=by rw[hW];exact iJ.start w _
 rw[←hW]
 have HK:=aa hK
 have q1:W.cell? ⟨w.heap.size+1,1,none⟩=some (.slice none 0 0):=(af hK.k7).cell 1
 have lq:=(af hK.k7).lt
 have lq0:w.heap.size< W.heap.size:=by omega
 have lq1:w.heap.size< W.heap.size+1:=by omega
 have hws:=hK.kp.size
 clear hW hK HT
 refine(ft 0 (0) 0 1 2 W).mono ?_
 rintro q wq ⟨rfl,rfl⟩
 go_wp2_with (at_builtin;refine aq rfl _ _ 24 rfl w.heap.size 36 i0 (.agg #[.int .i64 0,.int .i64 0,.int .i64 0,.int .i64 0,.int .i64 0,.int .i64 0,.slice none 0 0,.slice none 0 0]) 8 96 Tryz.underlying24 hi hz0 hz1 hz2 rfl (by decide) _ 0 _ rfl (World.ownsRow_nil _ _ _ _) ⟨W.heap.size+1+1,0,none⟩ 1 1 [.int .i64 0,.int .i64 0,.int .i64 (-1),.int .i64 0,.int .i64 1,.int .i64 2,.slice none 0 0,.slice none 0 0] rfl rfl (aF _ _ _ _ (by simp)) (by intro u hu;simp at hu;rcases hu with rfl|rfl|rfl|rfl|rfl|rfl|rfl|rfl<;>rfl) (by decide) (by unfold maxLen;decide) (by decide) (by simp;omega) ?_;intro v4 w4 hown4 hgrow4 _;obtain⟨p4,k4,rfl⟩:=ai hown4;obtain⟨hb7,hb4,hK2⟩:=HK.out.app (z:=((⟨0,0,-1,0,1,2,[],[]⟩:jp),.slice none 0 0,.slice none 0 0)) ((((Below.refl _ W).alloc (Nat.le_refl _) _).alloc (by simp) _).alloc (by simp;omega) _) (eo.nil _ ⟨rfl,rfl⟩ _) hown4 hgrow4;have e0:w4.cell? ⟨w.heap.size+1,0,none⟩=some _:=hb7.cell 0;have e1:w4.cell? ⟨w.heap.size+1,1,none⟩=some _:=hb7.cell 1;have e2:w4.frozen? ⟨w.heap.size+1,1,none⟩=false:=hb7.fz 1;have e3:=hb7.lt;have d0:w4.cell? ⟨w.heap.size,0,none⟩=some _:=hb4.cell 0;have d1:w4.cell? ⟨w.heap.size,1,none⟩=some _:=hb4.cell 1;have d2:w4.frozen? ⟨w.heap.size,0,none⟩=false:=hb4.fz 0;have d3:w4.frozen? ⟨w.heap.size,1,none⟩=false:=hb4.fz 1;have d4:=hb4.lt;have HK2:=aa hK2;clear hb7 hb4 hK2 hown4 hgrow4)
 go_wp2_with fail
 refine bodyPost_ret (results_cell_row rfl _ _ w.heap.size 26 #[.string ⟨(aX 1 n).toArray⟩,_] (0,0) _ rfl HK2.out.fin.1 Tryz.underlying26 rfl cz) rfl ⟨_,rfl,_,rfl,HK2.out.fin.2⟩
theorem zT(n:Nat)(hn:n< 4)(w:World):
  Calls Tryz.prog 6 #[.int .i64 2,.int .i64 n] w fun r w'=>∃lv,r=.returned (.agg #[.string ⟨(aX 2 n).toArray⟩,lv])∧∃xs:List dd,xs.map (·.1)=co 2 n∧dS w w' lv xs:=by
 obtain⟨i0,hi,hz0,hz1,hz2⟩:=info_parts ba
 have HT:Hid (∀W,Calls Tryz.prog 10 #[.string ⟨[120,61,49,59].toArray⟩,.int .i64 n] W fun r w'=>r=.returned (.string ⟨(aO n).toArray⟩)∧w'=W):=fun W=>fG _ (by decide) n (by omega) W
 have hil:(aO n).length≤12:=by unfold aO;rw[dD];simp;omega
 go_enter Tryz.func6,Tryz.ntmps6
 go_wp2_with fail
 refine(HT.out _).mono ?_
 rintro q wq ⟨rfl,rfl⟩
 go_wp2_with fail
 simp only[di]
 rw[show([118,97,114,32,103,59,118,97,114,32,104,59,109,117,116,101,120,32,109,59,109,117,116,101,120,32,110,59]:aj)++[102,117,110,99,32,119,40,41,123,103,61,49,59,125,102,117,110,99,32,109,97,105,110,40,41,123]++aO n++[119,104,105,108,101,32,49,123,103,111,32,119,40,41,59,125,125]=aX 2 n from rfl]
 obtain⟨W,hW⟩:∃W,W=(w.alloc (.cells #[.string ⟨#[]⟩,.slice none 0 0] 26)).alloc (.cells #[.string ⟨(aX 2 n).toArray⟩,.slice none 0 0] 26):=⟨_,rfl⟩
 have hK:iJ w W ⟨(aX 2 n).toArray⟩ (.slice none 0 0) []:=by rw[hW];exact iJ.start w _
 rw[←hW]
 have HK:=aa hK
 have q1:W.cell? ⟨w.heap.size+1,1,none⟩=some (.slice none 0 0):=(af hK.k7).cell 1
 have lq:=(af hK.k7).lt
 have lq0:w.heap.size< W.heap.size:=by omega
 have lq1:w.heap.size< W.heap.size+1:=by omega
 have hws:=hK.kp.size
 clear hW hK HT
 refine(ft 0 (0) 0 1 1 W).mono ?_
 rintro q wq ⟨rfl,rfl⟩
 go_wp2_with (at_builtin;refine aq rfl _ _ 24 rfl w.heap.size 36 i0 (.agg #[.int .i64 0,.int .i64 0,.int .i64 0,.int .i64 0,.int .i64 0,.int .i64 0,.slice none 0 0,.slice none 0 0]) 8 96 Tryz.underlying24 hi hz0 hz1 hz2 rfl (by decide) _ 0 _ rfl (World.ownsRow_nil _ _ _ _) ⟨W.heap.size+1+1,0,none⟩ 1 1 [.int .i64 0,.int .i64 0,.int .i64 (-1),.int .i64 0,.int .i64 1,.int .i64 1,.slice none 0 0,.slice none 0 0] rfl rfl (aF _ _ _ _ (by simp)) (by intro u hu;simp at hu;rcases hu with rfl|rfl|rfl|rfl|rfl|rfl|rfl|rfl<;>rfl) (by decide) (by unfold maxLen;decide) (by decide) (by simp;omega) ?_;intro v4 w4 hown4 hgrow4 _;obtain⟨p4,k4,rfl⟩:=ai hown4;obtain⟨hb7,hb4,hK2⟩:=HK.out.app (z:=((⟨0,0,-1,0,1,1,[],[]⟩:jp),.slice none 0 0,.slice none 0 0)) ((((Below.refl _ W).alloc (Nat.le_refl _) _).alloc (by simp) _).alloc (by simp;omega) _) (eo.nil _ ⟨rfl,rfl⟩ _) hown4 hgrow4;have e0:w4.cell? ⟨w.heap.size+1,0,none⟩=some _:=hb7.cell 0;have e1:w4.cell? ⟨w.heap.size+1,1,none⟩=some _:=hb7.cell 1;have e2:w4.frozen? ⟨w.heap.size+1,1,none⟩=false:=hb7.fz 1;have e3:=hb7.lt;have d0:w4.cell? ⟨w.heap.size,0,none⟩=some _:=hb4.cell 0;have d1:w4.cell? ⟨w.heap.size,1,none⟩=some _:=hb4.cell 1;have d2:w4.frozen? ⟨w.heap.size,0,none⟩=false:=hb4.fz 0;have d3:w4.frozen? ⟨w.heap.size,1,none⟩=false:=hb4.fz 1;have d4:=hb4.lt;have HK2:=aa hK2;clear hb7 hb4 hK2 hown4 hgrow4)
 go_wp2_with fail
 refine bodyPost_ret (results_cell_row rfl _ _ w.heap.size 26 #[.string ⟨(aX 2 n).toArray⟩,_] (0,0) _ rfl HK2.out.fin.1 Tryz.underlying26 rfl cz) rfl ⟨_,rfl,_,rfl,HK2.out.fin.2⟩
theorem zQ(n:Nat)(hn:n< 4)(w:World):
  Calls Tryz.prog 6 #[.int .i64 5,.int .i64 n] w fun r w'=>∃lv,r=.returned (.agg #[.string ⟨(aX 5 n).toArray⟩,lv])∧∃xs:List dd,xs.map (·.1)=co 5 n∧dS w w' lv xs:=by
 obtain⟨i0,hi,hz0,hz1,hz2⟩:=info_parts ba
 have HT:Hid (∀W,Calls Tryz.prog 10 #[.string ⟨[120,61,49,59].toArray⟩,.int .i64 n] W fun r w'=>r=.returned (.string ⟨(aO n).toArray⟩)∧w'=W):=fun W=>fG _ (by decide) n (by omega) W
 have hil:(aO n).length≤12:=by unfold aO;rw[dD];simp;omega
 go_enter Tryz.func6,Tryz.ntmps6
 go_wp2_with fail
 refine(HT.out _).mono ?_
 rintro q wq ⟨rfl,rfl⟩
 go_wp2_with fail
 simp only[di]
 rw[show([118,97,114,32,103,59,118,97,114,32,104,59,109,117,116,101,120,32,109,59,109,117,116,101,120,32,110,59]:aj)++[102,117,110,99,32,119,40,41,123,103,61,49,59,125,102,117,110,99,32,102,40,41,123,104,61,49,59,125,102,117,110,99,32,109,97,105,110,40,41,123]++aO n++[116,61,103,111,32,119,40,41,59,117,61,103,111,32,102,40,41,59,106,111,105,110,32,117,59,120,61,103,59,120,61,104,59,125]=aX 5 n from rfl]
 obtain⟨W,hW⟩:∃W,W=(w.alloc (.cells #[.string ⟨#[]⟩,.slice none 0 0] 26)).alloc (.cells #[.string ⟨(aX 5 n).toArray⟩,.slice none 0 0] 26):=⟨_,rfl⟩
 have hK:iJ w W ⟨(aX 5 n).toArray⟩ (.slice none 0 0) []:=by rw[hW];exact iJ.start w _
 rw[←hW]
 have HK:=aa hK
 have q1:W.cell? ⟨w.heap.size+1,1,none⟩=some (.slice none 0 0):=(af hK.k7).cell 1
 have lq:=(af hK.k7).lt
 have lq0:w.heap.size< W.heap.size:=by omega
 have lq1:w.heap.size< W.heap.size+1:=by omega
 have hws:=hK.kp.size
 clear hW hK HT
 refine(ft 0 (n+5) 0 1 0 W).mono ?_
 rintro q wq ⟨rfl,rfl⟩
 go_wp2_with (at_builtin;refine aq rfl _ _ 24 rfl w.heap.size 36 i0 (.agg #[.int .i64 0,.int .i64 0,.int .i64 0,.int .i64 0,.int .i64 0,.int .i64 0,.slice none 0 0,.slice none 0 0]) 8 96 Tryz.underlying24 hi hz0 hz1 hz2 rfl (by decide) _ 0 _ rfl (World.ownsRow_nil _ _ _ _) ⟨W.heap.size+1+1,0,none⟩ 1 1 [.int .i64 0,.int .i64 ((n:Int)+5),.int .i64 (-1),.int .i64 0,.int .i64 1,.int .i64 0,.slice none 0 0,.slice none 0 0] rfl rfl (aF _ _ _ _ (by simp)) (by intro u hu;simp at hu;rcases hu with rfl|rfl|rfl|rfl|rfl|rfl|rfl|rfl<;>rfl) (by decide) (by unfold maxLen;decide) (by decide) (by simp;omega) ?_;intro v4 w4 hown4 hgrow4 _;obtain⟨p4,k4,rfl⟩:=ai hown4;obtain⟨hb7,hb4,hK2⟩:=HK.out.app (z:=((⟨0,n+5,-1,0,1,0,[],[]⟩:jp),.slice none 0 0,.slice none 0 0)) ((((Below.refl _ W).alloc (Nat.le_refl _) _).alloc (by simp) _).alloc (by simp;omega) _) (eo.nil _ ⟨rfl,rfl⟩ _) hown4 hgrow4;have e0:w4.cell? ⟨w.heap.size+1,0,none⟩=some _:=hb7.cell 0;have e1:w4.cell? ⟨w.heap.size+1,1,none⟩=some _:=hb7.cell 1;have e2:w4.frozen? ⟨w.heap.size+1,1,none⟩=false:=hb7.fz 1;have e3:=hb7.lt;have d0:w4.cell? ⟨w.heap.size,0,none⟩=some _:=hb4.cell 0;have d1:w4.cell? ⟨w.heap.size,1,none⟩=some _:=hb4.cell 1;have d2:w4.frozen? ⟨w.heap.size,0,none⟩=false:=hb4.fz 0;have d3:w4.frozen? ⟨w.heap.size,1,none⟩=false:=hb4.fz 1;have d4:=hb4.lt;have HK2:=aa hK2;clear hb7 hb4 hK2 hown4 hgrow4)
 go_wp2_with fail
 refine bodyPost_ret (results_cell_row rfl _ _ w.heap.size 26 #[.string ⟨(aX 5 n).toArray⟩,_] (0,0) _ rfl HK2.out.fin.1 Tryz.underlying26 rfl cz) rfl ⟨_,rfl,_,rfl,HK2.out.fin.2⟩
theorem xW(n:Nat)(hn:n< 4)(w:World):
  Calls Tryz.prog 6 #[.int .i64 11,.int .i64 n] w fun r w'=>∃lv,r=.returned (.agg #[.string ⟨(aX 11 n).toArray⟩,lv])∧∃xs:List dd,xs.map (·.1)=co 11 n∧dS w w' lv xs:=by
 obtain⟨i0,hi,hz0,hz1,hz2⟩:=info_parts ba
 have HT:Hid (∀W,Calls Tryz.prog 10 #[.string ⟨[120,61,49,59].toArray⟩,.int .i64 n] W fun r w'=>r=.returned (.string ⟨(aO n).toArray⟩)∧w'=W):=fun W=>fG _ (by decide) n (by omega) W
 have hil:(aO n).length≤12:=by unfold aO;rw[dD];simp;omega
 go_enter Tryz.func6,Tryz.ntmps6
 go_wp2_with fail
 refine(HT.out _).mono ?_
 rintro q wq ⟨rfl,rfl⟩
 go_wp2_with fail
 simp only[di]
 rw[show([118,97,114,32,103,59,118,97,114,32,104,59,109,117,116,101,120,32,109,59,109,117,116,101,120,32,110,59]:aj)++[102,117,110,99,32,102,40,41,123,103,61,49,59,125,102,117,110,99,32,119,40,41,123,103,111,32,102,40,41,59,125,102,117,110,99,32,109,97,105,110,40,41,123]++aO n++[116,61,103,111,32,119,40,41,59,106,111,105,110,32,116,59,103,61,50,59,125]=aX 11 n from rfl]
 obtain⟨W,hW⟩:∃W,W=(w.alloc (.cells #[.string ⟨#[]⟩,.slice none 0 0] 26)).alloc (.cells #[.string ⟨(aX 11 n).toArray⟩,.slice none 0 0] 26):=⟨_,rfl⟩
 have hK:iJ w W ⟨(aX 11 n).toArray⟩ (.slice none 0 0) []:=by rw[hW];exact iJ.start w _
 rw[←hW]
 have HK:=aa hK
 have q1:W.cell? ⟨w.heap.size+1,1,none⟩=some (.slice none 0 0):=(af hK.k7).cell 1
 have lq:=(af hK.k7).lt
 have lq0:w.heap.size< W.heap.size:=by omega
 have lq1:w.heap.size< W.heap.size+1:=by omega
 have hws:=hK.kp.size
 clear hW hK HT
 refine(ft 0 (n+4) 0 1 0 W).mono ?_
 rintro q wq ⟨rfl,rfl⟩
 go_wp2_with (at_builtin;refine aq rfl _ _ 24 rfl w.heap.size 36 i0 (.agg #[.int .i64 0,.int .i64 0,.int .i64 0,.int .i64 0,.int .i64 0,.int .i64 0,.slice none 0 0,.slice none 0 0]) 8 96 Tryz.underlying24 hi hz0 hz1 hz2 rfl (by decide) _ 0 _ rfl (World.ownsRow_nil _ _ _ _) ⟨W.heap.size+1+1,0,none⟩ 1 1 [.int .i64 0,.int .i64 ((n:Int)+4),.int .i64 (-1),.int .i64 0,.int .i64 1,.int .i64 0,.slice none 0 0,.slice none 0 0] rfl rfl (aF _ _ _ _ (by simp)) (by intro u hu;simp at hu;rcases hu with rfl|rfl|rfl|rfl|rfl|rfl|rfl|rfl<;>rfl) (by decide) (by unfold maxLen;decide) (by decide) (by simp;omega) ?_;intro v4 w4 hown4 hgrow4 _;obtain⟨p4,k4,rfl⟩:=ai hown4;obtain⟨hb7,hb4,hK2⟩:=HK.out.app (z:=((⟨0,n+4,-1,0,1,0,[],[]⟩:jp),.slice none 0 0,.slice none 0 0)) ((((Below.refl _ W).alloc (Nat.le_refl _) _).alloc (by simp) _).alloc (by simp;omega) _) (eo.nil _ ⟨rfl,rfl⟩ _) hown4 hgrow4;have e0:w4.cell? ⟨w.heap.size+1,0,none⟩=some _:=hb7.cell 0;have e1:w4.cell? ⟨w.heap.size+1,1,none⟩=some _:=hb7.cell 1;have e2:w4.frozen? ⟨w.heap.size+1,1,none⟩=false:=hb7.fz 1;have e3:=hb7.lt;have d0:w4.cell? ⟨w.heap.size,0,none⟩=some _:=hb4.cell 0;have d1:w4.cell? ⟨w.heap.size,1,none⟩=some _:=hb4.cell 1;have d2:w4.frozen? ⟨w.heap.size,0,none⟩=false:=hb4.fz 0;have d3:w4.frozen? ⟨w.heap.size,1,none⟩=false:=hb4.fz 1;have d4:=hb4.lt;have HK2:=aa hK2;clear hb7 hb4 hK2 hown4 hgrow4)
 go_wp2_with fail
 refine bodyPost_ret (results_cell_row rfl _ _ w.heap.size 26 #[.string ⟨(aX 11 n).toArray⟩,_] (0,0) _ rfl HK2.out.fin.1 Tryz.underlying26 rfl cz) rfl ⟨_,rfl,_,rfl,HK2.out.fin.2⟩
theorem zP(n:Nat)(hn:n< 4)(w:World):
  Calls Tryz.prog 6 #[.int .i64 6,.int .i64 n] w fun r w'=>∃lv,r=.returned (.agg #[.string ⟨(aX 6 n).toArray⟩,lv])∧∃xs:List dd,xs.map (·.1)=co 6 n∧dS w w' lv xs:=by
 obtain⟨i0,hi,hz0,hz1,hz2⟩:=info_parts ba
 have HT:Hid (∀W,Calls Tryz.prog 10 #[.string ⟨[120,61,49,59].toArray⟩,.int .i64 n] W fun r w'=>r=.returned (.string ⟨(aO n).toArray⟩)∧w'=W):=fun W=>fG _ (by decide) n (by omega) W
 have hil:(aO n).length≤12:=by unfold aO;rw[dD];simp;omega
 go_enter Tryz.func6,Tryz.ntmps6
 go_wp2_with fail
 refine(HT.out _).mono ?_
 rintro q wq ⟨rfl,rfl⟩
 have HK:Hid (iJ w ((w.alloc (.cells #[.string ⟨#[]⟩,.slice none 0 0] 26)).alloc (.cells #[.string ⟨(aX 6 n).toArray⟩,.slice none 0 0] 26)) ⟨(aX 6 n).toArray⟩ (.slice none 0 0) []):=iJ.start w _
 clear HT
 go_wp2_with (at_builtin;simp only[di];rw[show([118,97,114,32,103,59,118,97,114,32,104,59,109,117,116,101,120,32,109,59,109,117,116,101,120,32,110,59]:aj)++[102,117,110,99,32,119,40,112,41,123,112,46,114,61,49,59,125,102,117,110,99,32,109,97,105,110,40,41,123]++aO n++[111,61,110,101,119,59,103,111,32,119,40,111,41,59,120,61,111,46,114,59,125]=aX 6 n from rfl];refine aq rfl _ _ 24 rfl w.heap.size 36 i0 (.agg #[.int .i64 0,.int .i64 0,.int .i64 0,.int .i64 0,.int .i64 0,.int .i64 0,.slice none 0 0,.slice none 0 0]) 8 96 Tryz.underlying24 hi hz0 hz1 hz2 rfl (by decide) _ 0 _ rfl (World.ownsRow_nil _ _ _ _) ⟨w.heap.size+1+1,0,none⟩ 1 1 [.int .i64 0,.int .i64 ((n:Int)+3),.int .i64 0,.int .i64 1,.int .i64 1,.int .i64 0,.slice none 0 0,.slice none 0 0] rfl rfl (aF _ _ _ _ (by simp)) (by intro u hu;simp at hu;rcases hu with rfl|rfl|rfl|rfl|rfl|rfl|rfl|rfl<;>rfl) (by decide) (by unfold maxLen;decide) (by decide) (by simp;omega) ?_;intro v4 w4 hown4 hgrow4 _;obtain⟨p4,k4,rfl⟩:=ai hown4;obtain⟨hb7,hb4,hK2⟩:=HK.out.app (z:=((⟨0,n+3,0,1,1,0,[],[]⟩:jp),.slice none 0 0,.slice none 0 0)) ((Below.refl _ _).alloc (Nat.le_refl _) _) (eo.nil _ ⟨rfl,rfl⟩ _) hown4 hgrow4;have e0:w4.cell? ⟨w.heap.size+1,0,none⟩=some _:=hb7.cell 0;have e1:w4.cell? ⟨w.heap.size+1,1,none⟩=some _:=hb7.cell 1;have e2:w4.frozen? ⟨w.heap.size+1,1,none⟩=false:=hb7.fz 1;have e3:=hb7.lt;have d0:w4.cell? ⟨w.heap.size,0,none⟩=some _:=hb4.cell 0;have d1:w4.cell? ⟨w.heap.size,1,none⟩=some _:=hb4.cell 1;have d2:w4.frozen? ⟨w.heap.size,0,none⟩=false:=hb4.fz 0;have d3:w4.frozen? ⟨w.heap.size,1,none⟩=false:=hb4.fz 1;have d4:=hb4.lt;have HK2:=aa hK2;clear hb7 hb4 hK2 hown4 hgrow4)
 go_wp2_with fail
 refine bodyPost_ret (results_cell_row rfl _ _ w.heap.size 26 #[.string ⟨(aX 6 n).toArray⟩,_] (0,0) _ rfl HK2.out.fin.1 Tryz.underlying26 rfl cz) rfl ⟨_,rfl,_,rfl,HK2.out.fin.2⟩
theorem zO(n:Nat)(hn:n< 4)(w:World):
  Calls Tryz.prog 6 #[.int .i64 7,.int .i64 n] w fun r w'=>∃lv,r=.returned (.agg #[.string ⟨(aX 7 n).toArray⟩,lv])∧∃xs:List dd,xs.map (·.1)=co 7 n∧dS w w' lv xs:=by
 obtain⟨i0,hi,hz0,hz1,hz2⟩:=info_parts ba
 have HT:Hid (∀W,Calls Tryz.prog 10 #[.string ⟨[120,61,49,59].toArray⟩,.int .i64 n] W fun r w'=>r=.returned (.string ⟨(aO n).toArray⟩)∧w'=W):=fun W=>fG _ (by decide) n (by omega) W
 have hil:(aO n).length≤12:=by unfold aO;rw[dD];simp;omega
 go_enter Tryz.func6,Tryz.ntmps6
 go_wp2_with fail
 refine(HT.out _).mono ?_
 rintro q wq ⟨rfl,rfl⟩
 have HK:Hid (iJ w ((w.alloc (.cells #[.string ⟨#[]⟩,.slice none 0 0] 26)).alloc (.cells #[.string ⟨(aX 7 n).toArray⟩,.slice none 0 0] 26)) ⟨(aX 7 n).toArray⟩ (.slice none 0 0) []):=iJ.start w _
 clear HT
 go_wp2_with (at_builtin;simp only[di];rw[show([118,97,114,32,103,59,118,97,114,32,104,59,109,117,116,101,120,32,109,59,109,117,116,101,120,32,110,59]:aj)++[102,117,110,99,32,119,40,41,123,108,111,99,107,32,109,59,111,61,103,59,117,110,108,111,99,107,32,109,59,111,46,108,61,50,59,125,102,117,110,99,32,109,97,105,110,40,41,123]++aO n++[111,61,110,101,119,59,108,111,99,107,32,109,59,103,61,111,59,117,110,108,111,99,107,32,109,59,103,111,32,119,40,41,59,120,61,111,46,108,59,125]=aX 7 n from rfl];refine aq rfl _ _ 24 rfl w.heap.size 36 i0 (.agg #[.int .i64 0,.int .i64 0,.int .i64 0,.int .i64 0,.int .i64 0,.int .i64 0,.slice none 0 0,.slice none 0 0]) 8 96 Tryz.underlying24 hi hz0 hz1 hz2 rfl (by decide) _ 0 _ rfl (World.ownsRow_nil _ _ _ _) ⟨w.heap.size+1+1,0,none⟩ 1 1 [.int .i64 3,.int .i64 ((n:Int)+9),.int .i64 0,.int .i64 0,.int .i64 1,.int .i64 0,.slice none 0 0,.slice none 0 0] rfl rfl (aF _ _ _ _ (by simp)) (by intro u hu;simp at hu;rcases hu with rfl|rfl|rfl|rfl|rfl|rfl|rfl|rfl<;>rfl) (by decide) (by unfold maxLen;decide) (by decide) (by simp;omega) ?_;intro v4 w4 hown4 hgrow4 _;obtain⟨p4,k4,rfl⟩:=ai hown4;obtain⟨hb7,hb4,hK2⟩:=HK.out.app (z:=((⟨3,n+9,0,0,1,0,[],[]⟩:jp),.slice none 0 0,.slice none 0 0)) ((Below.refl _ _).alloc (Nat.le_refl _) _) (eo.nil _ ⟨rfl,rfl⟩ _) hown4 hgrow4;have e0:w4.cell? ⟨w.heap.size+1,0,none⟩=some _:=hb7.cell 0;have e1:w4.cell? ⟨w.heap.size+1,1,none⟩=some _:=hb7.cell 1;have e2:w4.frozen? ⟨w.heap.size+1,1,none⟩=false:=hb7.fz 1;have e3:=hb7.lt;have d0:w4.cell? ⟨w.heap.size,0,none⟩=some _:=hb4.cell 0;have d1:w4.cell? ⟨w.heap.size,1,none⟩=some _:=hb4.cell 1;have d2:w4.frozen? ⟨w.heap.size,0,none⟩=false:=hb4.fz 0;have d3:w4.frozen? ⟨w.heap.size,1,none⟩=false:=hb4.fz 1;have d4:=hb4.lt;have HK2:=aa hK2;clear hb7 hb4 hK2 hown4 hgrow4)
 go_wp2_with fail
 refine bodyPost_ret (results_cell_row rfl _ _ w.heap.size 26 #[.string ⟨(aX 7 n).toArray⟩,_] (0,0) _ rfl HK2.out.fin.1 Tryz.underlying26 rfl cz) rfl ⟨_,rfl,_,rfl,HK2.out.fin.2⟩
theorem zM(n:Nat)(hn:n< 4)(w:World):
  Calls Tryz.prog 6 #[.int .i64 9,.int .i64 n] w fun r w'=>∃lv,r=.returned (.agg #[.string ⟨(aX 9 n).toArray⟩,lv])∧∃xs:List dd,xs.map (·.1)=co 9 n∧dS w w' lv xs:=by
 obtain⟨i0,hi,hz0,hz1,hz2⟩:=info_parts ba
 have HT:Hid (∀W,Calls Tryz.prog 10 #[.string ⟨[120,61,49,59].toArray⟩,.int .i64 n] W fun r w'=>r=.returned (.string ⟨(aO n).toArray⟩)∧w'=W):=fun W=>fG _ (by decide) n (by omega) W
 have hil:(aO n).length≤12:=by unfold aO;rw[dD];simp;omega
 go_enter Tryz.func6,Tryz.ntmps6
 go_wp2_with fail
 refine(HT.out _).mono ?_
 rintro q wq ⟨rfl,rfl⟩
 have HK:Hid (iJ w ((w.alloc (.cells #[.string ⟨#[]⟩,.slice none 0 0] 26)).alloc (.cells #[.string ⟨(aX 9 n).toArray⟩,.slice none 0 0] 26)) ⟨(aX 9 n).toArray⟩ (.slice none 0 0) []):=iJ.start w _
 clear HT
 go_wp2_with (at_builtin;simp only[di];rw[show([118,97,114,32,103,59,118,97,114,32,104,59,109,117,116,101,120,32,109,59,109,117,116,101,120,32,110,59]:aj)++[102,117,110,99,32,119,40,112,41,123,121,61,112,46,114,59,121,46,108,61,49,59,125,102,117,110,99,32,109,97,105,110,40,41,123]++aO n++[111,61,110,101,119,59,120,61,110,101,119,59,111,46,114,61,120,59,103,111,32,119,40,111,41,59,120,46,108,61,50,59,125]=aX 9 n from rfl];refine aq rfl _ _ 24 rfl w.heap.size 36 i0 (.agg #[.int .i64 0,.int .i64 0,.int .i64 0,.int .i64 0,.int .i64 0,.int .i64 0,.slice none 0 0,.slice none 0 0]) 8 96 Tryz.underlying24 hi hz0 hz1 hz2 rfl (by decide) _ 0 _ rfl (World.ownsRow_nil _ _ _ _) ⟨w.heap.size+1+1,0,none⟩ 1 1 [.int .i64 1,.int .i64 ((n:Int)+6),.int .i64 1,.int .i64 0,.int .i64 1,.int .i64 0,.slice none 0 0,.slice none 0 0] rfl rfl (aF _ _ _ _ (by simp)) (by intro u hu;simp at hu;rcases hu with rfl|rfl|rfl|rfl|rfl|rfl|rfl|rfl<;>rfl) (by decide) (by unfold maxLen;decide) (by decide) (by simp;omega) ?_;intro v4 w4 hown4 hgrow4 _;obtain⟨p4,k4,rfl⟩:=ai hown4;obtain⟨hb7,hb4,hK2⟩:=HK.out.app (z:=((⟨1,n+6,1,0,1,0,[],[]⟩:jp),.slice none 0 0,.slice none 0 0)) ((Below.refl _ _).alloc (Nat.le_refl _) _) (eo.nil _ ⟨rfl,rfl⟩ _) hown4 hgrow4;have e0:w4.cell? ⟨w.heap.size+1,0,none⟩=some _:=hb7.cell 0;have e1:w4.cell? ⟨w.heap.size+1,1,none⟩=some _:=hb7.cell 1;have e2:w4.frozen? ⟨w.heap.size+1,1,none⟩=false:=hb7.fz 1;have e3:=hb7.lt;have d0:w4.cell? ⟨w.heap.size,0,none⟩=some _:=hb4.cell 0;have d1:w4.cell? ⟨w.heap.size,1,none⟩=some _:=hb4.cell 1;have d2:w4.frozen? ⟨w.heap.size,0,none⟩=false:=hb4.fz 0;have d3:w4.frozen? ⟨w.heap.size,1,none⟩=false:=hb4.fz 1;have d4:=hb4.lt;have HK2:=aa hK2;clear hb7 hb4 hK2 hown4 hgrow4)
 go_wp2_with fail
 refine bodyPost_ret (results_cell_row rfl _ _ w.heap.size 26 #[.string ⟨(aX 9 n).toArray⟩,_] (0,0) _ rfl HK2.out.fin.1 Tryz.underlying26 rfl cz) rfl ⟨_,rfl,_,rfl,HK2.out.fin.2⟩
end
section
set_option maxRecDepth 100000
set_option maxHeartbeats 4000000
open Go.RowKit Go.Shelf
theorem ga{A B:World}(h:A.grownBy B none):Below A.heap.size A B:=⟨h.os,h.tape,h.output,h.size,fun k hk=>h.block k hk (by simp)⟩
theorem xX(n:Nat)(hn:n< 4)(w:World):
  Calls Tryz.prog 6 #[.int .i64 10,.int .i64 n] w fun r w'=>∃lv,r=.returned (.agg #[.string ⟨(aX 10 n).toArray⟩,lv])∧∃xs:List dd,xs.map (·.1)=co 10 n∧dS w w' lv xs:=by
 obtain⟨i0,hi,hz0,hz1,hz2⟩:=info_parts ba
 have HT:Hid (∀W,Calls Tryz.prog 10 #[.string ⟨[120,61,49,59].toArray⟩,.int .i64 n] W fun r w'=>r=.returned (.string ⟨(aO n).toArray⟩)∧w'=W):=fun W=>fG _ (by decide) n (by omega) W
 have hil:(aO n).length≤12:=by unfold aO;rw[dD];simp;omega
 go_enter Tryz.func6,Tryz.ntmps6
 go_wp2_with fail
 refine(HT.out _).mono ?_
 rintro q wq ⟨rfl,rfl⟩
 go_wp2_with fail
 simp only[di]
 rw[show([118,97,114,32,103,59,118,97,114,32,104,59,109,117,116,101,120,32,109,59,109,117,116,101,120,32,110,59]:aj)++[102,117,110,99,32,119,40,41,123,103,61,49,59,125,102,117,110,99,32,109,97,105,110,40,41,123]++aO n++[116,61,103,111,32,119,40,41,59,121,61,104,59,105,102,32,121,123,116,61,103,111,32,119,40,41,59,125,106,111,105,110,32,116,59,120,61,103,59,125]=aX 10 n from rfl]
 obtain⟨W,hW⟩:∃W,W=(w.alloc (.cells #[.string ⟨#[]⟩,.slice none 0 0] 26)).alloc (.cells #[.string ⟨(aX 10 n).toArray⟩,.slice none 0 0] 26):=⟨_,rfl⟩
 have hK:iJ w W ⟨(aX 10 n).toArray⟩ (.slice none 0 0) []:=by rw[hW];exact iJ.start w _
 rw[←hW]
 have HK:=aa hK
 have q1:W.cell? ⟨w.heap.size+1,1,none⟩=some (.slice none 0 0):=(af hK.k7).cell 1
 have lq:=(af hK.k7).lt
 have lq0:w.heap.size< W.heap.size:=by omega
 have lq1:w.heap.size< W.heap.size+1:=by omega
 have hws:=hK.kp.size
 clear hW hK HT
 have HBX:Hid (an (((((W.alloc (.cells #[.int .i64 0,.int .i64 0,.int .i64 (-1),.int .i64 0,.int .i64 1,.int .i64 2,.slice none 0 0,.slice none 0 0] 36)).alloc (.cells #[.int .i64 0,.int .i64 0,.int .i64 (-1),.int .i64 0,.int .i64 1,.int .i64 2,.slice none 0 0,.slice none 0 0] 36)).alloc (.cells #[.int .i64 0,.int .i64 ((n:Int)+6),.int .i64 (-1),.int .i64 0,.int .i64 1,.int .i64 0,.slice none 0 0,.slice none 0 0] 36)).alloc (.cells #[.int .i64 0,.int .i64 ((n:Int)+6),.int .i64 (-1),.int .i64 0,.int .i64 1,.int .i64 0,.slice none 0 0,.slice none 0 0] 36)).alloc (.cells #[.int .i64 0,.int .i64 0,.int .i64 (-1),.int .i64 0,.int .i64 1,.int .i64 2,.slice none 0 0,.slice none 0 0] 36)) (W.heap.size+1+1+1) #[.int .i64 0,.int .i64 ((n:Int)+6),.int .i64 (-1),.int .i64 0,.int .i64 1,.int .i64 0,.slice none 0 0,.slice none 0 0]):=(an.new' _ _ _ _ (by simp)).alloc _
 refine(ft 0 (0) 0 1 2 W).mono ?_
 rintro q wq ⟨rfl,rfl⟩
 go_wp2_with fail
 refine(ft 0 (n+6) 0 1 0 _).mono ?_
 rintro q wq ⟨rfl,rfl⟩
 go_wp2_with (first|(at_builtin;refine aq rfl _ _ 24 rfl w.heap.size 36 i0 (.agg #[.int .i64 0,.int .i64 0,.int .i64 0,.int .i64 0,.int .i64 0,.int .i64 0,.slice none 0 0,.slice none 0 0]) 8 96 Tryz.underlying24 hi hz0 hz1 hz2 rfl (by decide) _ 1 _ rfl (HK2.out.own.alloc _) ⟨w4.heap.size,0,none⟩ 1 1 [.int .i64 0,.int .i64 ((n:Int)+6),.int .i64 (-1),.int .i64 0,.int .i64 1,.int .i64 0,.slice none 0 0,.slice none 0 0] rfl rfl (aF _ _ _ _ (by simp)) (by intro u hu;simp at hu;rcases hu with rfl|rfl|rfl|rfl|rfl|rfl|rfl|rfl<;>rfl) (by decide) (by unfold maxLen;decide) (by decide) (by simp;omega) ?_;intro v4 w6 hown4 hgrow4 _;obtain⟨p6,k4,rfl⟩:=ai hown4;obtain⟨hb7,hb4,hK2⟩:=HK2.out.app (z:=((⟨0,n+6,-1,0,1,0,[],[]⟩:jp),.slice none 0 0,.slice none 0 0)) ((Below.refl _ _).alloc (Nat.le_refl _) _) (eo.nil _ ⟨rfl,rfl⟩ _) hown4 hgrow4;have e0:w6.cell? ⟨w.heap.size+1,0,none⟩=some _:=hb7.cell 0;have e1:w6.cell? ⟨w.heap.size+1,1,none⟩=some _:=hb7.cell 1;have e2:w6.frozen? ⟨w.heap.size+1,1,none⟩=false:=hb7.fz 1;have e3:=hb7.lt;have d0:w6.cell? ⟨w.heap.size,0,none⟩=some _:=hb4.cell 0;have d1:w6.cell? ⟨w.heap.size,1,none⟩=some _:=hb4.cell 1;have d2:w6.frozen? ⟨w.heap.size,0,none⟩=false:=hb4.fz 0;have d3:w6.frozen? ⟨w.heap.size,1,none⟩=false:=hb4.fz 1;have d4:=hb4.lt;have HK3:=aa hK2;clear hb7 hb4 hK2 hown4 hgrow4)|(at_builtin;refine aq rfl _ _ 24 rfl w.heap.size 36 i0 (.agg #[.int .i64 0,.int .i64 0,.int .i64 0,.int .i64 0,.int .i64 0,.int .i64 0,.slice none 0 0,.slice none 0 0]) 8 96 Tryz.underlying24 hi hz0 hz1 hz2 rfl (by decide) _ 0 _ rfl (World.ownsRow_nil _ _ _ _) ⟨W.heap.size+1+1+1+1,0,none⟩ 1 1 [.int .i64 0,.int .i64 0,.int .i64 (-1),.int .i64 0,.int .i64 1,.int .i64 2,.slice none 0 0,.slice none 0 0] rfl rfl (aF _ _ _ _ (by simp)) (by intro u hu;simp at hu;rcases hu with rfl|rfl|rfl|rfl|rfl|rfl|rfl|rfl<;>rfl) (by decide) (by unfold maxLen;decide) (by decide) (by simp;omega) ?_;intro v4 w4 hown4 hgrow4 _;obtain⟨p4,k4,rfl⟩:=ai hown4;obtain⟨hb7,hb4,hK2⟩:=HK.out.app (z:=((⟨0,0,-1,0,1,2,[],[]⟩:jp),.slice none 0 0,.slice none 0 0)) ((((((Below.refl _ W).alloc (Nat.le_refl _) _).alloc (by simp) _).alloc (by simp;omega) _).alloc (by simp;omega) _).alloc (by simp;omega) _) (eo.nil _ ⟨rfl,rfl⟩ _) hown4 hgrow4;have e0:w4.cell? ⟨w.heap.size+1,0,none⟩=some _:=hb7.cell 0;have e1:w4.cell? ⟨w.heap.size+1,1,none⟩=some _:=hb7.cell 1;have e2:w4.frozen? ⟨w.heap.size+1,1,none⟩=false:=hb7.fz 1;have e3:=hb7.lt;have d0:w4.cell? ⟨w.heap.size,0,none⟩=some _:=hb4.cell 0;have d1:w4.cell? ⟨w.heap.size,1,none⟩=some _:=hb4.cell 1;have d2:w4.frozen? ⟨w.heap.size,0,none⟩=false:=hb4.fz 0;have d3:w4.frozen? ⟨w.heap.size,1,none⟩=false:=hb4.fz 1;have d4:=hb4.lt;have HK2:=aa hK2;have hbx:=HBX.out.below (ga hgrow4);have x0:w4.cell? ⟨W.heap.size+1+1+1,0,none⟩=some (.int .i64 0):=hbx.cell 0;have x1:w4.cell? ⟨W.heap.size+1+1+1,1,none⟩=some (.int .i64 ((n:Int)+6)):=hbx.cell 1;have x2:w4.cell? ⟨W.heap.size+1+1+1,2,none⟩=some (.int .i64 (-1)):=hbx.cell 2;have x3:w4.cell? ⟨W.heap.size+1+1+1,3,none⟩=some (.int .i64 0):=hbx.cell 3;have x4:w4.cell? ⟨W.heap.size+1+1+1,4,none⟩=some (.int .i64 1):=hbx.cell 4;have x5:w4.cell? ⟨W.heap.size+1+1+1,5,none⟩=some (.int .i64 0):=hbx.cell 5;have x6:w4.cell? ⟨W.heap.size+1+1+1,6,none⟩=some (.slice none 0 0):=hbx.cell 6;have x7:w4.cell? ⟨W.heap.size+1+1+1,7,none⟩=some (.slice none 0 0):=hbx.cell 7;have xl:=hbx.lt;have hw4:=HK2.out.kp.size;clear hbx;clear hb7 hb4 hK2 hown4 hgrow4))
 go_wp2_with fail
 refine bodyPost_ret (results_cell_row rfl _ _ w.heap.size 26 #[.string ⟨(aX 10 n).toArray⟩,_] (0,0) _ rfl HK3.out.fin.1 Tryz.underlying26 rfl cz) rfl ⟨_,rfl,_,rfl,HK3.out.fin.2⟩
theorem zS(n:Nat)(hn:n< 4)(w:World):
  Calls Tryz.prog 6 #[.int .i64 3,.int .i64 n] w fun r w'=>∃lv,r=.returned (.agg #[.string ⟨(aX 3 n).toArray⟩,lv])∧∃xs:List dd,xs.map (·.1)=co 3 n∧dS w w' lv xs:=by
 obtain⟨i0,hi,hz0,hz1,hz2⟩:=info_parts ba
 have HT:Hid (∀W,Calls Tryz.prog 10 #[.string ⟨[120,61,49,59].toArray⟩,.int .i64 n] W fun r w'=>r=.returned (.string ⟨(aO n).toArray⟩)∧w'=W):=fun W=>fG _ (by decide) n (by omega) W
 have hil:(aO n).length≤12:=by unfold aO;rw[dD];simp;omega
 go_enter Tryz.func6,Tryz.ntmps6
 go_wp2_with fail
 refine(HT.out _).mono ?_
 rintro q wq ⟨rfl,rfl⟩
 obtain⟨i1,hj,hj0,hj1,hj2⟩:=info_parts gL
 go_wp2_with fail
 simp only[di]
 rw[show([118,97,114,32,103,59,118,97,114,32,104,59,109,117,116,101,120,32,109,59,109,117,116,101,120,32,110,59]:aj)++[102,117,110,99,32,119,40,41,123,108,111,99,107,32,109,59,103,61,49,59,117,110,108,111,99,107,32,109,59,125,102,117,110,99,32,109,97,105,110,40,41,123]++aO n++[103,111,32,119,40,41,59,108,111,99,107,32,110,59,120,61,103,59,117,110,108,111,99,107,32,110,59,125]=aX 3 n from rfl]
 obtain⟨W,hW⟩:∃W,W=(w.alloc (.cells #[.string ⟨#[]⟩,.slice none 0 0] 26)).alloc (.cells #[.string ⟨(aX 3 n).toArray⟩,.slice none 0 0] 26):=⟨_,rfl⟩
 have hK:iJ w W ⟨(aX 3 n).toArray⟩ (.slice none 0 0) []:=by rw[hW];exact iJ.start w _
 rw[←hW]
 have HK:=aa hK
 have q1:W.cell? ⟨w.heap.size+1,1,none⟩=some (.slice none 0 0):=(af hK.k7).cell 1
 have lq:=(af hK.k7).lt
 have lq0:w.heap.size< W.heap.size:=by omega
 have lq1:w.heap.size< W.heap.size+1:=by omega
 have hws:=hK.kp.size
 clear hW hK HT
 have nW:¬W.heap.size=w.heap.size:=by omega
 have nW':¬w.heap.size=W.heap.size:=by omega
 have HL0:Hid (xh w ((W.alloc (.cells #[.int .i64 1,.int .i64 ((n:Int)+5),.int .i64 (-1),.int .i64 0,.int .i64 1,.int .i64 0,.slice none 0 0,.slice none 0 0] 36)).alloc (.cells #[.int .i64 1,.int .i64 ((n:Int)+5),.int .i64 (-1),.int .i64 0,.int .i64 1,.int .i64 0,.slice none 0 0,.slice none 0 0] 36)) ⟨(aX 3 n).toArray⟩ (W.heap.size+1) ⟨1,n+5,-1,0,1,0,[],[]⟩ (.slice none 0 0) (.slice none 0 0)):=
  ⟨HK.out.below (((Below.refl _ W).alloc (Nat.le_refl _) _).alloc (by simp) _),by have:=heap_alloc_new (W.alloc (.cells #[.int .i64 1,.int .i64 ((n:Int)+5),.int .i64 (-1),.int .i64 0,.int .i64 1,.int .i64 0,.slice none 0 0,.slice none 0 0] 36)) (.cells #[.int .i64 1,.int .i64 ((n:Int)+5),.int .i64 (-1),.int .i64 0,.int .i64 1,.int .i64 0,.slice none 0 0,.slice none 0 0] 36);rw[World.size_alloc]at this;exact this,eo.nil _ ⟨rfl,rfl⟩ _,by omega⟩
 refine(ft 1 (n+5) 0 1 0 W).mono ?_
 rintro q wq ⟨rfl,rfl⟩
 go_wp2_with (first|(at_builtin;refine aq rfl _ _ 24 rfl w.heap.size 36 i0 (.agg #[.int .i64 0,.int .i64 0,.int .i64 0,.int .i64 0,.int .i64 0,.int .i64 0,.slice none 0 0,.slice none 0 0]) 8 96 Tryz.underlying24 hi hz0 hz1 hz2 rfl (by decide) _ 0 _ rfl (World.ownsRow_nil _ _ _ _) ⟨w6.heap.size,0,none⟩ 1 1 [.int .i64 1,.int .i64 ((n:Int)+5),.int .i64 (-1),.int .i64 0,.int .i64 1,.int .i64 0,.slice p5 1 k5,.slice p6 1 k6] rfl rfl (aF _ _ _ _ (by simp)) (by intro u hu;simp at hu;rcases hu with rfl|rfl|rfl|rfl|rfl|rfl|rfl|rfl<;>rfl) (by decide) (by unfold maxLen;decide) (by decide) (Nat.le_trans HL6.out.kn.kp.size ((Below.refl _ (w6.setCell ⟨W.heap.size+1,7,none⟩ (.slice p6 (0+1) k6))).alloc (Nat.le_refl _) _).size) ?_;intro v4 w8 hown4 hgrow4 _;obtain⟨p8,k4,rfl⟩:=ai hown4;obtain⟨hb7,hb4,hK2⟩:=HL6.out.kn.app (z:=((⟨1,n+5,-1,0,1,0,[0],[1]⟩:jp),.slice p5 1 k5,.slice p6 1 k6)) ((Below.refl _ (w6.setCell ⟨W.heap.size+1,7,none⟩ (.slice p6 (0+1) k6))).alloc (Nat.le_refl _) _) (HL6.out.g.below ((Below.refl _ _).alloc (Nat.le_refl _) _)) hown4 hgrow4;have e0:w8.cell? ⟨w.heap.size+1,0,none⟩=some _:=hb7.cell 0;have e1:w8.cell? ⟨w.heap.size+1,1,none⟩=some _:=hb7.cell 1;have e2:w8.frozen? ⟨w.heap.size+1,1,none⟩=false:=hb7.fz 1;have e3:=hb7.lt;have d0:w8.cell? ⟨w.heap.size,0,none⟩=some _:=hb4.cell 0;have d1:w8.cell? ⟨w.heap.size,1,none⟩=some _:=hb4.cell 1;have d2:w8.frozen? ⟨w.heap.size,0,none⟩=false:=hb4.fz 0;have d3:w8.frozen? ⟨w.heap.size,1,none⟩=false:=hb4.fz 1;have d4:=hb4.lt;have HK2:=aa hK2;clear hb7 hb4 hK2 hown4 hgrow4)|(at_builtin;refine aq rfl _ _ 34 rfl w.heap.size 3 i1 (.int .i64 0) 1 8 Tryz.underlying34 hj hj0 hj1 hj2 rfl (by decide) _ 0 _ rfl (World.ownsRow_nil _ _ _ _) ⟨w5.heap.size,0,none⟩ 1 1 [.int .i64 1] rfl rfl (aF _ _ _ _ (by simp)) (fun u hu=>by rw[List.mem_singleton.1 hu];rfl) (by decide) (by unfold maxLen;decide) (by decide) (Nat.le_trans HL5.out.kn.kp.size ((Below.refl _ (w5.setCell ⟨W.heap.size+1,6,none⟩ (.slice p5 (0+1) k5))).alloc (Nat.le_refl _) _).size) ?_;intro v5 w6 hown5 hgrow5 _;obtain⟨p6,k6,rfl⟩:=ai hown5;have kb:=((Below.refl _ (w5.setCell ⟨W.heap.size+1,6,none⟩ (.slice p5 (0+1) k5))).alloc (Nat.le_refl _) _).trans ((ga hgrow5).mono ((Below.refl _ (w5.setCell ⟨W.heap.size+1,6,none⟩ (.slice p5 (0+1) k5))).alloc (Nat.le_refl _) _).size);have HL6:=aa (HL5.out.lockB (x:=1) rfl kb hown5);have hbx:=(af HL5.out.box).below kb;have x0:w6.cell? ⟨W.heap.size+1,0,none⟩=some (.int .i64 1):=hbx.cell 0;have x1:w6.cell? ⟨W.heap.size+1,1,none⟩=some (.int .i64 ((n:Int)+5)):=hbx.cell 1;have x2:w6.cell? ⟨W.heap.size+1,2,none⟩=some (.int .i64 (-1)):=hbx.cell 2;have x3:w6.cell? ⟨W.heap.size+1,3,none⟩=some (.int .i64 0):=hbx.cell 3;have x4:w6.cell? ⟨W.heap.size+1,4,none⟩=some (.int .i64 1):=hbx.cell 4;have x5:w6.cell? ⟨W.heap.size+1,5,none⟩=some (.int .i64 0):=hbx.cell 5;have x6:w6.cell? ⟨W.heap.size+1,6,none⟩=some (.slice p5 1 k5):=hbx.cell 6;have x7:w6.cell? ⟨W.heap.size+1,7,none⟩=some (.slice none 0 0):=hbx.cell 7;have y6:w6.frozen? ⟨W.heap.size+1,6,none⟩=false:=hbx.fz 6;have y7:w6.frozen? ⟨W.heap.size+1,7,none⟩=false:=hbx.fz 7;have xl:=hbx.lt;have hb7:=(af HL5.out.kn.k7).below kb;have e1:w6.cell? ⟨w.heap.size+1,1,none⟩=some (.slice none 0 0):=hb7.cell 1;have e3:=hb7.lt;have e4:w.heap.size< w6.heap.size:=by omega;try clear hbx hb7 kb hown5 hgrow5)|(at_builtin;refine aq rfl _ _ 34 rfl w.heap.size 3 i1 (.int .i64 0) 1 8 Tryz.underlying34 hj hj0 hj1 hj2 rfl (by decide) _ 0 _ rfl (World.ownsRow_nil _ _ _ _) ⟨W.heap.size+1+1,0,none⟩ 1 1 [.int .i64 0] rfl rfl (aF _ _ _ _ (by simp)) (fun u hu=>by rw[List.mem_singleton.1 hu];rfl) (by decide) (by unfold maxLen;decide) (by decide) (Nat.le_trans HL0.out.kn.kp.size ((Below.refl _ ((W.alloc (.cells #[.int .i64 1,.int .i64 ((n:Int)+5),.int .i64 (-1),.int .i64 0,.int .i64 1,.int .i64 0,.slice none 0 0,.slice none 0 0] 36)).alloc (.cells #[.int .i64 1,.int .i64 ((n:Int)+5),.int .i64 (-1),.int .i64 0,.int .i64 1,.int .i64 0,.slice none 0 0,.slice none 0 0] 36))).alloc (Nat.le_refl _) _).size) ?_;intro v5 w5 hown5 hgrow5 _;obtain⟨p5,k5,rfl⟩:=ai hown5;have kb:=((Below.refl _ ((W.alloc (.cells #[.int .i64 1,.int .i64 ((n:Int)+5),.int .i64 (-1),.int .i64 0,.int .i64 1,.int .i64 0,.slice none 0 0,.slice none 0 0] 36)).alloc (.cells #[.int .i64 1,.int .i64 ((n:Int)+5),.int .i64 (-1),.int .i64 0,.int .i64 1,.int .i64 0,.slice none 0 0,.slice none 0 0] 36))).alloc (Nat.le_refl _) _).trans ((ga hgrow5).mono ((Below.refl _ ((W.alloc (.cells #[.int .i64 1,.int .i64 ((n:Int)+5),.int .i64 (-1),.int .i64 0,.int .i64 1,.int .i64 0,.slice none 0 0,.slice none 0 0] 36)).alloc (.cells #[.int .i64 1,.int .i64 ((n:Int)+5),.int .i64 (-1),.int .i64 0,.int .i64 1,.int .i64 0,.slice none 0 0,.slice none 0 0] 36))).alloc (Nat.le_refl _) _).size);have HL5:=aa (HL0.out.lockA (x:=0) rfl kb hown5);have hbx:=(af HL0.out.box).below kb;have x0:w5.cell? ⟨W.heap.size+1,0,none⟩=some (.int .i64 1):=hbx.cell 0;have x1:w5.cell? ⟨W.heap.size+1,1,none⟩=some (.int .i64 ((n:Int)+5)):=hbx.cell 1;have x2:w5.cell? ⟨W.heap.size+1,2,none⟩=some (.int .i64 (-1)):=hbx.cell 2;have x3:w5.cell? ⟨W.heap.size+1,3,none⟩=some (.int .i64 0):=hbx.cell 3;have x4:w5.cell? ⟨W.heap.size+1,4,none⟩=some (.int .i64 1):=hbx.cell 4;have x5:w5.cell? ⟨W.heap.size+1,5,none⟩=some (.int .i64 0):=hbx.cell 5;have x6:w5.cell? ⟨W.heap.size+1,6,none⟩=some (.slice none 0 0):=hbx.cell 6;have x7:w5.cell? ⟨W.heap.size+1,7,none⟩=some (.slice none 0 0):=hbx.cell 7;have y6:w5.frozen? ⟨W.heap.size+1,6,none⟩=false:=hbx.fz 6;have y7:w5.frozen? ⟨W.heap.size+1,7,none⟩=false:=hbx.fz 7;have xl:=hbx.lt;have hb7:=(af HL0.out.kn.k7).below kb;have e1:w5.cell? ⟨w.heap.size+1,1,none⟩=some (.slice none 0 0):=hb7.cell 1;have e3:=hb7.lt;have e4:w.heap.size< w5.heap.size:=by omega;try clear hbx hb7 kb hown5 hgrow5))
 go_wp2_with fail
 refine bodyPost_ret (results_cell_row rfl _ _ w.heap.size 26 #[.string ⟨(aX 3 n).toArray⟩,_] (0,0) _ rfl HK2.out.fin.1 Tryz.underlying26 rfl cz) rfl ⟨_,rfl,_,rfl,HK2.out.fin.2⟩
theorem zR(n:Nat)(hn:n< 4)(w:World):
  Calls Tryz.prog 6 #[.int .i64 4,.int .i64 n] w fun r w'=>∃lv,r=.returned (.agg #[.string ⟨(aX 4 n).toArray⟩,lv])∧∃xs:List dd,xs.map (·.1)=co 4 n∧dS w w' lv xs:=by
 obtain⟨i0,hi,hz0,hz1,hz2⟩:=info_parts ba
 have HT:Hid (∀W,Calls Tryz.prog 10 #[.string ⟨[120,61,49,59].toArray⟩,.int .i64 n] W fun r w'=>r=.returned (.string ⟨(aO n).toArray⟩)∧w'=W):=fun W=>fG _ (by decide) n (by omega) W
 have hil:(aO n).length≤12:=by unfold aO;rw[dD];simp;omega
 go_enter Tryz.func6,Tryz.ntmps6
 go_wp2_with fail
 refine(HT.out _).mono ?_
 rintro q wq ⟨rfl,rfl⟩
 obtain⟨i1,hj,hj0,hj1,hj2⟩:=info_parts gL
 go_wp2_with fail
 simp only[di]
 rw[show([118,97,114,32,103,59,118,97,114,32,104,59,109,117,116,101,120,32,109,59,109,117,116,101,120,32,110,59]:aj)++[102,117,110,99,32,119,40,41,123,108,111,99,107,32,109,59,103,61,49,59,117,110,108,111,99,107,32,109,59,125,102,117,110,99,32,109,97,105,110,40,41,123]++aO n++[103,111,32,119,40,41,59,108,111,99,107,32,109,59,117,110,108,111,99,107,32,109,59,120,61,103,59,125]=aX 4 n from rfl]
 obtain⟨W,hW⟩:∃W,W=(w.alloc (.cells #[.string ⟨#[]⟩,.slice none 0 0] 26)).alloc (.cells #[.string ⟨(aX 4 n).toArray⟩,.slice none 0 0] 26):=⟨_,rfl⟩
 have hK:iJ w W ⟨(aX 4 n).toArray⟩ (.slice none 0 0) []:=by rw[hW];exact iJ.start w _
 rw[←hW]
 have HK:=aa hK
 have q1:W.cell? ⟨w.heap.size+1,1,none⟩=some (.slice none 0 0):=(af hK.k7).cell 1
 have lq:=(af hK.k7).lt
 have lq0:w.heap.size< W.heap.size:=by omega
 have lq1:w.heap.size< W.heap.size+1:=by omega
 have hws:=hK.kp.size
 clear hW hK HT
 have nW:¬W.heap.size=w.heap.size:=by omega
 have nW':¬w.heap.size=W.heap.size:=by omega
 have HL0:Hid (xh w ((W.alloc (.cells #[.int .i64 1,.int .i64 ((n:Int)+6),.int .i64 (-1),.int .i64 0,.int .i64 1,.int .i64 0,.slice none 0 0,.slice none 0 0] 36)).alloc (.cells #[.int .i64 1,.int .i64 ((n:Int)+6),.int .i64 (-1),.int .i64 0,.int .i64 1,.int .i64 0,.slice none 0 0,.slice none 0 0] 36)) ⟨(aX 4 n).toArray⟩ (W.heap.size+1) ⟨1,n+6,-1,0,1,0,[],[]⟩ (.slice none 0 0) (.slice none 0 0)):=
  ⟨HK.out.below (((Below.refl _ W).alloc (Nat.le_refl _) _).alloc (by simp) _),by have:=heap_alloc_new (W.alloc (.cells #[.int .i64 1,.int .i64 ((n:Int)+6),.int .i64 (-1),.int .i64 0,.int .i64 1,.int .i64 0,.slice none 0 0,.slice none 0 0] 36)) (.cells #[.int .i64 1,.int .i64 ((n:Int)+6),.int .i64 (-1),.int .i64 0,.int .i64 1,.int .i64 0,.slice none 0 0,.slice none 0 0] 36);rw[World.size_alloc]at this;exact this,eo.nil _ ⟨rfl,rfl⟩ _,by omega⟩
 refine(ft 1 (n+6) 0 1 0 W).mono ?_
 rintro q wq ⟨rfl,rfl⟩
 go_wp2_with (first|(at_builtin;refine aq rfl _ _ 24 rfl w.heap.size 36 i0 (.agg #[.int .i64 0,.int .i64 0,.int .i64 0,.int .i64 0,.int .i64 0,.int .i64 0,.slice none 0 0,.slice none 0 0]) 8 96 Tryz.underlying24 hi hz0 hz1 hz2 rfl (by decide) _ 0 _ rfl (World.ownsRow_nil _ _ _ _) ⟨w5.heap.size,0,none⟩ 1 1 [.int .i64 1,.int .i64 ((n:Int)+6),.int .i64 (-1),.int .i64 0,.int .i64 1,.int .i64 0,.slice p5 1 k5,.slice none 0 0] rfl rfl (aF _ _ _ _ (by simp)) (by intro u hu;simp at hu;rcases hu with rfl|rfl|rfl|rfl|rfl|rfl|rfl|rfl<;>rfl) (by decide) (by unfold maxLen;decide) (by decide) (Nat.le_trans HL5.out.kn.kp.size ((Below.refl _ (w5.setCell ⟨W.heap.size+1,6,none⟩ (.slice p5 (0+1) k5))).alloc (Nat.le_refl _) _).size) ?_;intro v4 w8 hown4 hgrow4 _;obtain⟨p8,k4,rfl⟩:=ai hown4;obtain⟨hb7,hb4,hK2⟩:=HL5.out.kn.app (z:=((⟨1,n+6,-1,0,1,0,[0],[]⟩:jp),.slice p5 1 k5,.slice none 0 0)) ((Below.refl _ (w5.setCell ⟨W.heap.size+1,6,none⟩ (.slice p5 (0+1) k5))).alloc (Nat.le_refl _) _) (HL5.out.g.below ((Below.refl _ _).alloc (Nat.le_refl _) _)) hown4 hgrow4;have e0:w8.cell? ⟨w.heap.size+1,0,none⟩=some _:=hb7.cell 0;have e1:w8.cell? ⟨w.heap.size+1,1,none⟩=some _:=hb7.cell 1;have e2:w8.frozen? ⟨w.heap.size+1,1,none⟩=false:=hb7.fz 1;have e3:=hb7.lt;have d0:w8.cell? ⟨w.heap.size,0,none⟩=some _:=hb4.cell 0;have d1:w8.cell? ⟨w.heap.size,1,none⟩=some _:=hb4.cell 1;have d2:w8.frozen? ⟨w.heap.size,0,none⟩=false:=hb4.fz 0;have d3:w8.frozen? ⟨w.heap.size,1,none⟩=false:=hb4.fz 1;have d4:=hb4.lt;have HK2:=aa hK2;clear hb7 hb4 hK2 hown4 hgrow4)|(at_builtin;refine aq rfl _ _ 34 rfl w.heap.size 3 i1 (.int .i64 0) 1 8 Tryz.underlying34 hj hj0 hj1 hj2 rfl (by decide) _ 0 _ rfl (World.ownsRow_nil _ _ _ _) ⟨W.heap.size+1+1,0,none⟩ 1 1 [.int .i64 0] rfl rfl (aF _ _ _ _ (by simp)) (fun u hu=>by rw[List.mem_singleton.1 hu];rfl) (by decide) (by unfold maxLen;decide) (by decide) (Nat.le_trans HL0.out.kn.kp.size ((Below.refl _ ((W.alloc (.cells #[.int .i64 1,.int .i64 ((n:Int)+6),.int .i64 (-1),.int .i64 0,.int .i64 1,.int .i64 0,.slice none 0 0,.slice none 0 0] 36)).alloc (.cells #[.int .i64 1,.int .i64 ((n:Int)+6),.int .i64 (-1),.int .i64 0,.int .i64 1,.int .i64 0,.slice none 0 0,.slice none 0 0] 36))).alloc (Nat.le_refl _) _).size) ?_;intro v5 w5 hown5 hgrow5 _;obtain⟨p5,k5,rfl⟩:=ai hown5;have kb:=((Below.refl _ ((W.alloc (.cells #[.int .i64 1,.int .i64 ((n:Int)+6),.int .i64 (-1),.int .i64 0,.int .i64 1,.int .i64 0,.slice none 0 0,.slice none 0 0] 36)).alloc (.cells #[.int .i64 1,.int .i64 ((n:Int)+6),.int .i64 (-1),.int .i64 0,.int .i64 1,.int .i64 0,.slice none 0 0,.slice none 0 0] 36))).alloc (Nat.le_refl _) _).trans ((ga hgrow5).mono ((Below.refl _ ((W.alloc (.cells #[.int .i64 1,.int .i64 ((n:Int)+6),.int .i64 (-1),.int .i64 0,.int .i64 1,.int .i64 0,.slice none 0 0,.slice none 0 0] 36)).alloc (.cells #[.int .i64 1,.int .i64 ((n:Int)+6),.int .i64 (-1),.int .i64 0,.int .i64 1,.int .i64 0,.slice none 0 0,.slice none 0 0] 36))).alloc (Nat.le_refl _) _).size);have HL5:=aa (HL0.out.lockA (x:=0) rfl kb hown5);have hbx:=(af HL0.out.box).below kb;have x0:w5.cell? ⟨W.heap.size+1,0,none⟩=some (.int .i64 1):=hbx.cell 0;have x1:w5.cell? ⟨W.heap.size+1,1,none⟩=some (.int .i64 ((n:Int)+6)):=hbx.cell 1;have x2:w5.cell? ⟨W.heap.size+1,2,none⟩=some (.int .i64 (-1)):=hbx.cell 2;have x3:w5.cell? ⟨W.heap.size+1,3,none⟩=some (.int .i64 0):=hbx.cell 3;have x4:w5.cell? ⟨W.heap.size+1,4,none⟩=some (.int .i64 1):=hbx.cell 4;have x5:w5.cell? ⟨W.heap.size+1,5,none⟩=some (.int .i64 0):=hbx.cell 5;have x6:w5.cell? ⟨W.heap.size+1,6,none⟩=some (.slice none 0 0):=hbx.cell 6;have x7:w5.cell? ⟨W.heap.size+1,7,none⟩=some (.slice none 0 0):=hbx.cell 7;have y6:w5.frozen? ⟨W.heap.size+1,6,none⟩=false:=hbx.fz 6;have y7:w5.frozen? ⟨W.heap.size+1,7,none⟩=false:=hbx.fz 7;have xl:=hbx.lt;have hb7:=(af HL0.out.kn.k7).below kb;have e1:w5.cell? ⟨w.heap.size+1,1,none⟩=some (.slice none 0 0):=hb7.cell 1;have e3:=hb7.lt;have e4:w.heap.size< w5.heap.size:=by omega;try clear hbx hb7 kb hown5 hgrow5))
 go_wp2_with fail
 refine bodyPost_ret (results_cell_row rfl _ _ w.heap.size 26 #[.string ⟨(aX 4 n).toArray⟩,_] (0,0) _ rfl HK2.out.fin.1 Tryz.underlying26 rfl cz) rfl ⟨_,rfl,_,rfl,HK2.out.fin.2⟩
theorem zN(n:Nat)(hn:n< 4)(w:World):
  Calls Tryz.prog 6 #[.int .i64 8,.int .i64 n] w fun r w'=>∃lv,r=.returned (.agg #[.string ⟨(aX 8 n).toArray⟩,lv])∧∃xs:List dd,xs.map (·.1)=co 8 n∧dS w w' lv xs:=by
 obtain⟨i0,hi,hz0,hz1,hz2⟩:=info_parts ba
 have HT:Hid (∀W,Calls Tryz.prog 10 #[.string ⟨[120,61,49,59].toArray⟩,.int .i64 n] W fun r w'=>r=.returned (.string ⟨(aO n).toArray⟩)∧w'=W):=fun W=>fG _ (by decide) n (by omega) W
 have hil:(aO n).length≤12:=by unfold aO;rw[dD];simp;omega
 go_enter Tryz.func6,Tryz.ntmps6
 go_wp2_with fail
 refine(HT.out _).mono ?_
 rintro q wq ⟨rfl,rfl⟩
 obtain⟨i1,hj,hj0,hj1,hj2⟩:=info_parts gL
 go_wp2_with fail
 simp only[di]
 rw[show([118,97,114,32,103,59,118,97,114,32,104,59,109,117,116,101,120,32,109,59,109,117,116,101,120,32,110,59]:aj)++[102,117,110,99,32,119,40,112,41,123,105,102,32,112,123,108,111,99,107,32,109,59,125,103,61,49,59,125,102,117,110,99,32,109,97,105,110,40,41,123]++aO n++[103,111,32,119,40,49,41,59,108,111,99,107,32,109,59,103,61,50,59,117,110,108,111,99,107,32,109,59,125]=aX 8 n from rfl]
 obtain⟨W,hW⟩:∃W,W=(w.alloc (.cells #[.string ⟨#[]⟩,.slice none 0 0] 26)).alloc (.cells #[.string ⟨(aX 8 n).toArray⟩,.slice none 0 0] 26):=⟨_,rfl⟩
 have hK:iJ w W ⟨(aX 8 n).toArray⟩ (.slice none 0 0) []:=by rw[hW];exact iJ.start w _
 rw[←hW]
 have HK:=aa hK
 have q1:W.cell? ⟨w.heap.size+1,1,none⟩=some (.slice none 0 0):=(af hK.k7).cell 1
 have lq:=(af hK.k7).lt
 have lq0:w.heap.size< W.heap.size:=by omega
 have lq1:w.heap.size< W.heap.size+1:=by omega
 have hws:=hK.kp.size
 clear hW hK HT
 have nW:¬W.heap.size=w.heap.size:=by omega
 have nW':¬w.heap.size=W.heap.size:=by omega
 have HL0:Hid (xh w ((W.alloc (.cells #[.int .i64 2,.int .i64 ((n:Int)+5),.int .i64 (-1),.int .i64 0,.int .i64 1,.int .i64 0,.slice none 0 0,.slice none 0 0] 36)).alloc (.cells #[.int .i64 2,.int .i64 ((n:Int)+5),.int .i64 (-1),.int .i64 0,.int .i64 1,.int .i64 0,.slice none 0 0,.slice none 0 0] 36)) ⟨(aX 8 n).toArray⟩ (W.heap.size+1) ⟨2,n+5,-1,0,1,0,[],[]⟩ (.slice none 0 0) (.slice none 0 0)):=
  ⟨HK.out.below (((Below.refl _ W).alloc (Nat.le_refl _) _).alloc (by simp) _),by have:=heap_alloc_new (W.alloc (.cells #[.int .i64 2,.int .i64 ((n:Int)+5),.int .i64 (-1),.int .i64 0,.int .i64 1,.int .i64 0,.slice none 0 0,.slice none 0 0] 36)) (.cells #[.int .i64 2,.int .i64 ((n:Int)+5),.int .i64 (-1),.int .i64 0,.int .i64 1,.int .i64 0,.slice none 0 0,.slice none 0 0] 36);rw[World.size_alloc]at this;exact this,eo.nil _ ⟨rfl,rfl⟩ _,by omega⟩
 refine(ft 2 (n+5) 0 1 0 W).mono ?_
 rintro q wq ⟨rfl,rfl⟩
 go_wp2_with (first|(at_builtin;refine aq rfl _ _ 24 rfl w.heap.size 36 i0 (.agg #[.int .i64 0,.int .i64 0,.int .i64 0,.int .i64 0,.int .i64 0,.int .i64 0,.slice none 0 0,.slice none 0 0]) 8 96 Tryz.underlying24 hi hz0 hz1 hz2 rfl (by decide) _ 0 _ rfl (World.ownsRow_nil _ _ _ _) ⟨w6.heap.size,0,none⟩ 1 1 [.int .i64 2,.int .i64 ((n:Int)+5),.int .i64 (-1),.int .i64 0,.int .i64 1,.int .i64 0,.slice none 0 0,.slice p6 1 k6] rfl rfl (aF _ _ _ _ (by simp)) (by intro u hu;simp at hu;rcases hu with rfl|rfl|rfl|rfl|rfl|rfl|rfl|rfl<;>rfl) (by decide) (by unfold maxLen;decide) (by decide) (Nat.le_trans HL6.out.kn.kp.size ((Below.refl _ (w6.setCell ⟨W.heap.size+1,7,none⟩ (.slice p6 (0+1) k6))).alloc (Nat.le_refl _) _).size) ?_;intro v4 w8 hown4 hgrow4 _;obtain⟨p8,k4,rfl⟩:=ai hown4;obtain⟨hb7,hb4,hK2⟩:=HL6.out.kn.app (z:=((⟨2,n+5,-1,0,1,0,[],[0]⟩:jp),.slice none 0 0,.slice p6 1 k6)) ((Below.refl _ (w6.setCell ⟨W.heap.size+1,7,none⟩ (.slice p6 (0+1) k6))).alloc (Nat.le_refl _) _) (HL6.out.g.below ((Below.refl _ _).alloc (Nat.le_refl _) _)) hown4 hgrow4;have e0:w8.cell? ⟨w.heap.size+1,0,none⟩=some _:=hb7.cell 0;have e1:w8.cell? ⟨w.heap.size+1,1,none⟩=some _:=hb7.cell 1;have e2:w8.frozen? ⟨w.heap.size+1,1,none⟩=false:=hb7.fz 1;have e3:=hb7.lt;have d0:w8.cell? ⟨w.heap.size,0,none⟩=some _:=hb4.cell 0;have d1:w8.cell? ⟨w.heap.size,1,none⟩=some _:=hb4.cell 1;have d2:w8.frozen? ⟨w.heap.size,0,none⟩=false:=hb4.fz 0;have d3:w8.frozen? ⟨w.heap.size,1,none⟩=false:=hb4.fz 1;have d4:=hb4.lt;have HK2:=aa hK2;clear hb7 hb4 hK2 hown4 hgrow4)|(at_builtin;refine aq rfl _ _ 34 rfl w.heap.size 3 i1 (.int .i64 0) 1 8 Tryz.underlying34 hj hj0 hj1 hj2 rfl (by decide) _ 0 _ rfl (World.ownsRow_nil _ _ _ _) ⟨W.heap.size+1+1,0,none⟩ 1 1 [.int .i64 0] rfl rfl (aF _ _ _ _ (by simp)) (fun u hu=>by rw[List.mem_singleton.1 hu];rfl) (by decide) (by unfold maxLen;decide) (by decide) (Nat.le_trans HL0.out.kn.kp.size ((Below.refl _ ((W.alloc (.cells #[.int .i64 2,.int .i64 ((n:Int)+5),.int .i64 (-1),.int .i64 0,.int .i64 1,.int .i64 0,.slice none 0 0,.slice none 0 0] 36)).alloc (.cells #[.int .i64 2,.int .i64 ((n:Int)+5),.int .i64 (-1),.int .i64 0,.int .i64 1,.int .i64 0,.slice none 0 0,.slice none 0 0] 36))).alloc (Nat.le_refl _) _).size) ?_;intro v5 w6 hown5 hgrow5 _;obtain⟨p6,k6,rfl⟩:=ai hown5;have kb:=((Below.refl _ ((W.alloc (.cells #[.int .i64 2,.int .i64 ((n:Int)+5),.int .i64 (-1),.int .i64 0,.int .i64 1,.int .i64 0,.slice none 0 0,.slice none 0 0] 36)).alloc (.cells #[.int .i64 2,.int .i64 ((n:Int)+5),.int .i64 (-1),.int .i64 0,.int .i64 1,.int .i64 0,.slice none 0 0,.slice none 0 0] 36))).alloc (Nat.le_refl _) _).trans ((ga hgrow5).mono ((Below.refl _ ((W.alloc (.cells #[.int .i64 2,.int .i64 ((n:Int)+5),.int .i64 (-1),.int .i64 0,.int .i64 1,.int .i64 0,.slice none 0 0,.slice none 0 0] 36)).alloc (.cells #[.int .i64 2,.int .i64 ((n:Int)+5),.int .i64 (-1),.int .i64 0,.int .i64 1,.int .i64 0,.slice none 0 0,.slice none 0 0] 36))).alloc (Nat.le_refl _) _).size);have HL6:=aa (HL0.out.lockB (x:=0) rfl kb hown5);have hbx:=(af HL0.out.box).below kb;have x0:w6.cell? ⟨W.heap.size+1,0,none⟩=some (.int .i64 2):=hbx.cell 0;have x1:w6.cell? ⟨W.heap.size+1,1,none⟩=some (.int .i64 ((n:Int)+5)):=hbx.cell 1;have x2:w6.cell? ⟨W.heap.size+1,2,none⟩=some (.int .i64 (-1)):=hbx.cell 2;have x3:w6.cell? ⟨W.heap.size+1,3,none⟩=some (.int .i64 0):=hbx.cell 3;have x4:w6.cell? ⟨W.heap.size+1,4,none⟩=some (.int .i64 1):=hbx.cell 4;have x5:w6.cell? ⟨W.heap.size+1,5,none⟩=some (.int .i64 0):=hbx.cell 5;have x6:w6.cell? ⟨W.heap.size+1,6,none⟩=some (.slice none 0 0):=hbx.cell 6;have x7:w6.cell? ⟨W.heap.size+1,7,none⟩=some (.slice none 0 0):=hbx.cell 7;have y6:w6.frozen? ⟨W.heap.size+1,6,none⟩=false:=hbx.fz 6;have y7:w6.frozen? ⟨W.heap.size+1,7,none⟩=false:=hbx.fz 7;have xl:=hbx.lt;have hb7:=(af HL0.out.kn.k7).below kb;have e1:w6.cell? ⟨w.heap.size+1,1,none⟩=some (.slice none 0 0):=hb7.cell 1;have e3:=hb7.lt;have e4:w.heap.size< w6.heap.size:=by omega;try clear hbx hb7 kb hown5 hgrow5))
 go_wp2_with fail
 refine bodyPost_ret (results_cell_row rfl _ _ w.heap.size 26 #[.string ⟨(aX 8 n).toArray⟩,_] (0,0) _ rfl HK2.out.fin.1 Tryz.underlying26 rfl cz) rfl ⟨_,rfl,_,rfl,HK2.out.fin.2⟩
end
end Go.Proofs.YtmdaflepdaiabaaGreatDoor
