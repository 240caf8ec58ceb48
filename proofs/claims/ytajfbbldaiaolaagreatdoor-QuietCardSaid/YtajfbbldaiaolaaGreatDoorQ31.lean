import Derived.Test.YtajfbbldaiaolaaGreatDoorQ29
import Derived.Test.YtajfbbldaiaolaaGreatDoorQ30
set_option linter.unusedSimpArgs false
set_option linter.unusedVariables false
set_option maxRecDepth 100000
set_option maxHeartbeats 1000000
namespace Go.Proofs.YtajfbbldaiaolaaGreatDoor
open Go.RowKit Go.Shelf
theorem AZ(k n:Nat)(B:k< 12)(A:n< 4):jS (eB k n) []/\iq (eB k n)=true:=by
 match k,B with
 |0,_=>exact⟨eN (Ln n A),Mz n A⟩
 |1,_=>exact⟨eN (Lm n A),My n A⟩
 |2,_=>exact⟨eN (Ll n A),Mw n A⟩
 |3,_=>exact⟨eN (Lk n A),sE n A⟩
 |4,_=>exact⟨eN (Lj n A),Mv n A⟩
 |5,_=>exact⟨eN (Li n A),Mu n A⟩
 |6,_=>exact⟨eN (Lh n A),Mr n A⟩
 |7,_=>exact⟨eN (Lg n A),Mq n A⟩
 |8,_=>exact⟨eN (Lf n A),Mp n A⟩
 |9,_=>exact⟨eN (Le n A),Mo n A⟩
 |10,_=>exact⟨eN (Js n A),Lt n A⟩
 |11,_=>exact⟨eN (Jr n A),Ls n A⟩
 |k+12,h=>exact absurd h (by omega)
theorem zP{w:World}(a b:Int)(N:-9223372036854775808<=a/\a<=9223372036854775807)(M:-9223372036854775808<=b/\b<=9223372036854775807)(F:Tz w)(hg:0< w.heap.size):
  Calls Tryz.prog 3 #[aB a,aB b] w (Rt w (.bool true)):=by
 have P:=aG (Il (w:=w) (eN Ld) rfl rfl F hg)
 have O:Hid (∀(k n:Nat) (W:World),k< 12->n< 4->Bw w W->Ca 5 #[aB k,aB n] W (Rt W (.bool true))):=fun k n W C B H=>Ik C B (AZ k n C B).1 (AZ k n C B).2 (F.below H) (Nat.lt_of_lt_of_le hg H.size)
 clear F
 go_in
 go_wp2_with fail
 refine P.mono ?_
 rintro q R ⟨rfl,E⟩
 have A:=aG E
 clear E
 go_wp2_with fail
 refine(Gl a 12 (by decide) (by decide) N _).mono ?_
 rintro q Q ⟨⟨k,C,rfl⟩,rfl⟩
 go_wp2_with fail
 refine(Gl b 4 (by decide) (by decide) M _).mono ?_
 rintro q K ⟨⟨n,B,rfl⟩,rfl⟩
 have J:=aG (O k n _ C B A)
 go_wp2_with fail
 refine J.mono ?_
 rintro q L ⟨rfl,D⟩
 have G:Hid (Bw w L):=A.trans (D.mono A.size)
 clear D J
 go_wp2_with fail
 go_ret
 exact⟨rfl,G⟩
end Go.Proofs.YtajfbbldaiaolaaGreatDoor
