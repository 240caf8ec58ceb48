import Derived.Test.YtajfbbldaiaolaaGreatDoorQ17
set_option linter.unusedSimpArgs false
set_option linter.unusedVariables false
set_option maxRecDepth 100000
set_option maxHeartbeats 8000000
namespace Go.Proofs.YtajfbbldaiaolaaGreatDoor
open Go.RowKit Go.Shelf
theorem EW{v w:World}{a d b s:Nat}{x:Rp}{l:List Nat}(h:cA v d x)(k:Bw v w)(K:s< x.stmts.length)(S:v.heap.size<=b)(H:aM w b (aE l))(Z:w.cell? (Ad a 1)=some (aF d))(A:(x.st s).p.kind=8\/(x.st s).p.kind=9\/(x.st s).p.kind=10\/(x.st s).p.kind=13\/(x.st s).p.kind=14\/((x.st s).p.kind=1/\(x.st s).p.op≠0)):
  Calls Tryz.prog 145 #[aF a,aF b,aB s] w fun q w'=>q=.returned (.tuple #[])/\aM w' b (aE l)/\aC (aK b) w w':=by
 obtain⟨g,c,E,sr,sb,O,N,m,j,i,B,C,Q,G,T⟩:=h.stmO k K
 have R:=H.lt
 have W:a< w.heap.size:=aD Z
 have V:d< w.heap.size:=aD O
 have X:g< w.heap.size:=aD N
 have P:=K
 have Y:Ce w E 2 (aB (x.st s).p.kind):=B.cell 2
 have n:Ce w E 6 (aB (x.st s).p.op):=B.cell 6
 generalize x.st s=st at *
 have M:=B.lt
 have f:Hid ((w.alloc (.cells #[aF b] 313)).alloc (.cells #[aF E,aB st.fn,aB st.nx,aB st.ins] 253)=(ek w b E st.fn st.nx st.ins)):=rfl
 have F:=aG (aU w b E st.fn st.nx st.ins)
 have J:=aG (H.below F)
 have D:st.p.op≠0->((st.p.op:Int)==0)=false:=fun e=>by simp;exact e
 clear h k B C G H
 rcases A with A|A|A|A|A|⟨A,L⟩
 all_goals
  rw[A]at Y
  clear A
  (try replace D:=D L)
  (try clear L)
  go_in
  go_wp2_with fail
  rw[f.out]
  go_end0
  exact⟨rfl,J,aC.of_below F⟩
end Go.Proofs.YtajfbbldaiaolaaGreatDoor
