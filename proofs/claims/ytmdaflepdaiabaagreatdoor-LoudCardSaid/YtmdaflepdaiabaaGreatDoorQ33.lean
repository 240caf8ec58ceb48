import Derived.Test.YtmdaflepdaiabaaGreatDoorQ31
import Derived.Test.YtmdaflepdaiabaaGreatDoorQ32
set_option linter.unusedSimpArgs false
set_option linter.unusedVariables false
namespace Go.Proofs.YtmdaflepdaiabaaGreatDoor
section
set_option maxRecDepth 100000
set_option maxHeartbeats 1000000
open Go.RowKit Go.Shelf
theorem vQ(k n:Nat)(hk:k< 12)(hn:n< 4)(w:World):
  Calls Tryz.prog 6 #[.int .i64 k,.int .i64 n] w fun r w'=>∃lv,r=.returned (.agg #[.string ⟨(aX k n).toArray⟩,lv])∧∃xs:List dd,xs.map (·.1)=co k n∧dS w w' lv xs:=by
 match k,hk with
 |0,_=>exact zW n hn w
 |1,_=>exact zU n hn w
 |2,_=>exact zT n hn w
 |3,_=>exact zS n hn w
 |4,_=>exact zR n hn w
 |5,_=>exact zQ n hn w
 |6,_=>exact zP n hn w
 |7,_=>exact zO n hn w
 |8,_=>exact zN n hn w
 |9,_=>exact zM n hn w
 |10,_=>exact xX n hn w
 |11,_=>exact xW n hn w
theorem xx(k n:Nat)(hk:k< 12)(hn:n< 4):mS (aX k n) (co k n):=ve (by
 match k,hk with
 |0,_=>exact AL n hn
 |1,_=>exact AK n hn
 |2,_=>exact AJ n hn
 |3,_=>exact AI n hn
 |4,_=>exact AH n hn
 |5,_=>exact AG n hn
 |6,_=>exact AF n hn
 |7,_=>exact AE n hn
 |8,_=>exact AD n hn
 |9,_=>exact AC n hn
 |10,_=>exact zf n hn
 |11,_=>exact ze n hn)
theorem tI(k n:Nat)(hk:k< 12):(co k n).length< 1000:=by
 match k,hk with
 |0,_=>show _< _;simp[co]
 |1,_=>show _< _;simp[co]
 |2,_=>show _< _;simp[co]
 |3,_=>show _< _;simp[co]
 |4,_=>show _< _;simp[co]
 |5,_=>show _< _;simp[co]
 |6,_=>show _< _;simp[co]
 |7,_=>show _< _;simp[co]
 |8,_=>show _< _;simp[co]
 |9,_=>show _< _;simp[co]
 |10,_=>show _< _;simp[co]
 |11,_=>show _< _;simp[co]
theorem wg{w:World}(a b:Int)(ha:-9223372036854775808≤a∧a≤9223372036854775807)(hb:-9223372036854775808≤b∧b≤9223372036854775807)(hT:Tz w)(hg:0< w.heap.size):
  Calls Tryz.prog 3 #[.int .i64 a,.int .i64 b] w fun r w'=>r=.returned (.bool true)∧Below w.heap.size w w':=by
 have HT:=aa hT
 clear hT
 go_enter Tryz.func3,Tryz.ntmps3
 go_wp2_with fail
 refine(yY a 12 (by decide) (by decide) ha _).mono ?_
 rintro q wq ⟨⟨k,hk,rfl⟩,rfl⟩
 go_wp2_with fail
 refine(yY b 4 (by decide) (by decide) hb _).mono ?_
 rintro q wq' ⟨⟨n,hn,rfl⟩,rfl⟩
 have HL:=aa (Bk (vQ k n hk hn _) (xx k n hk hn) HT.out hg (tI k n hk))
 go_wp2_with fail
 refine HL.out.mono ?_
 rintro q w2 ⟨rfl,hb2⟩
 have HB2:=aa hb2
 clear hb2 HL
 go_wp2_with fail
 go_ret
 exact⟨rfl,HB2.out⟩
end
end Go.Proofs.YtmdaflepdaiabaaGreatDoor
