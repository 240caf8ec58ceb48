import Derived.Test.YtajfbbldaiaolaaGreatDoorQ19
set_option linter.unusedSimpArgs false
set_option linter.unusedVariables false
set_option maxRecDepth 100000
set_option maxHeartbeats 4000000
namespace Go.Proofs.YtajfbbldaiaolaaGreatDoor
open Go.RowKit Go.Shelf
def Rp.callG(x:Rp)(l:List Nat)(s:Nat):List Nat:=fc (gP (x.st s).p.nn (x.st s).fn (x.st s).r 0 l) (x.st s).fn (x.st s).p (aQ (gP (x.st s).p.nn (x.st s).fn (x.st s).r 0 l) (47+(x.st s).p.nn))
theorem EY{v w:World}{a d b s:Nat}{x:Rp}{l:List Nat}(h:cA v d x)(k:Bw v w)(hs:s< x.stmts.length)(ai:v.heap.size<=b)(y:aM w b (aE l))(hl:l.length=104)(c1:w.cell? (Ad a 1)=some (aF d))(J:lz (x.st s))(hk:(x.st s).p.kind=11):
  Calls Tryz.prog 145 #[aF a,aF b,aB s] w fun q w'=>q=.returned (.tuple #[])/\aM w' b (aE (x.callG l s))/\aC (aK b) w w':=by
 obtain⟨g,c,A,sr,sb,z3,z4,z5,z6,z7,D,K,ah,V,ak⟩:=h.stmO k hs
 have F:A≠b:=by omega
 have u:=y.lt
 have am:a< w.heap.size:=aD c1
 have al:d< w.heap.size:=aD z3
 have an:g< w.heap.size:=aD z4
 have af:=hs
 unfold Rp.callG
 have d2:w.cell? (Ad A 2)=some (aB 11):=by rw[D.cell 2];simp[bK,hk]
 have G:=J.fn
 have O:=J.ln
 have ag:=J.nn
 have SO:=aG J
 generalize x.st s=st at *
 have ae:=D.lt
 have Q:Hid (∀w',aC (aK b) (ek w b A st.fn st.nx st.ins) w'->w'.cell? (Ad w.heap.size 0)=some (aF b)/\w'.cell? (Ad (w.heap.size+1) 0)=some (aF A)/\w'.cell? (Ad (w.heap.size+1) 1)=some (aB st.fn)/\w'.cell? (Ad (w.heap.size+1) 2)=some (aB st.nx)/\w'.cell? (Ad (w.heap.size+1) 3)=some (aB st.ins)/\w'.cell? (Ad A 11)=some (aB st.p.nn)):=fun w' M=>by
  obtain⟨a1,a2,a3,a4,a5,a6⟩:=iS M u D F
  exact⟨a1,a2,a3,a4,a5,a6.cell 11⟩
 obtain⟨a9,a8,a7,a0,z,-⟩:=Q _ (aC.refl _ _)
 have Y:aM (ek w b A st.fn st.nx st.ins) b (aE l):=y.below (aU w b A st.fn st.nx st.ins)
 have N:aM (ek w b A st.fn st.nx st.ins) A (bK st.p sr sb):=D.below (aU w b A st.fn st.nx st.ins)
 have HD:Hid ((w.alloc (.cells #[aF b] 313)).alloc (.cells #[aF A,aB st.fn,aB st.nx,aB st.ins] 253)=(ek w b A st.fn st.nx st.ins)):=rfl
 have ab:=aG (aU w b A st.fn st.nx st.ins)
 have X:(ek w b A st.fn st.nx st.ins).ownsRow 0 258 4 sr st.r.length (eF st.r):=aP K (aU w b A st.fn st.nx st.ins)
 have ac:=aG (Gn (f:=st.fn) (nx:=st.nx) (ins:=st.ins) Y N X (fun i e=>by have:=V i e;omega) hl F G J.nn J.len J.num)
 have t:(gP st.p.nn st.fn st.r 0 l).length=104:=by rw[rS];exact hl
 generalize gP st.p.nn st.fn st.r 0 l=m at *
 obtain⟨E,P⟩:=bM (aQ m (47+st.p.nn))
 rw[<-P]
 have HV:Hid (∀W:World,aM W b (aE m)->W.cell? (Ad b (94+st.p.nn*2))=some (aH E.1)/\W.cell? (Ad b (94+st.p.nn*2+1))=some (aH E.2)):=fun W hB=>by
  rw[hB.cell,hB.cell,P,show 94+st.p.nn*2=2*(47+st.p.nn)by omega]
  exact⟨bU (by omega),bU (by omega)⟩
 have HG:Hid (∀R,aC (aK b) (ek w b A st.fn st.nx st.ins) R->aM R b (aE m)->Ca 214 #[aF b,.agg #[aF A,aB st.fn,aB st.nx,aB st.ins],.agg #[aH E.1,aH E.2]] R fun r w'=>r=.returned (.tuple #[])/\(aM w' b (aE (fc m st.fn st.p E))/\aC (aK b) R w')/\w'.cell? (Ad b (94+st.p.nn*2))=some (aH E.1)/\w'.cell? (Ad b (94+st.p.nn*2+1))=some (aH E.2)):=fun R k2 H=>(rT H (N.kept k2 F) t F G O).mono (fun r w' n=>⟨n.1,n.2,by rw[n.2.1.cell,n.2.1.cell,nh G O (by omega),nh G O (by omega),<-H.cell,<-H.cell];exact HV R H⟩)
 have y1:(0:Int)<=st.p.nn:=by omega
 have y2:(st.p.nn:Int)< 5:=by omega
 clear h k D K V Y N y J X P
 go_in
 go_wp2_with fail
 rw[HD.out]
 refine ac.mono ?_
 rintro q L ⟨rfl,C,B⟩
 have j:=aG ((aC.of_below (S:=aK b) ab).trans' B (fun i e=>.inl e))
 obtain⟨f0,f1,f2,f3,f4,f5⟩:=Q L B
 obtain⟨v0,v1⟩:=HV L C
 have ad:=aG (HG L.drew ⟨B.os,B.tape,B.output,B.size,B.block⟩ (C.below (Below.refl _ L).drew))
 have aa:Hid (∀w',aC (aK b) L.drew w'->w'.cell? (Ad w.heap.size 0)=some (aF b)/\w'.cell? (Ad (w.heap.size+1) 0)=some (aF A)/\w'.cell? (Ad (w.heap.size+1) 1)=some (aB st.fn)/\w'.cell? (Ad (w.heap.size+1) 2)=some (aB st.nx)/\w'.cell? (Ad (w.heap.size+1) 3)=some (aB st.ins)/\w'.cell? (Ad A 11)=some (aB st.p.nn)):=fun w' M=>Q w' (B.trans ⟨M.os,M.tape,M.output,M.size,M.block⟩)
 have aj:b< L.heap.size:=C.lt
 clear B C a9 a8 a7 a0 z
 go_wp2_with fail
 go_region_held3 (fun Z=>Z.cell? (Ad w.heap.size 0)=some (aF b)/\Z.cell? (Ad (w.heap.size+1) 0)=some (aF A)/\Z.cell? (Ad (w.heap.size+1) 1)=some (aB st.fn)/\Z.cell? (Ad (w.heap.size+1) 2)=some (aB st.nx)/\Z.cell? (Ad (w.heap.size+1) 3)=some (aB st.ins)/\Z.cell? (Ad A 11)=some (aB st.p.nn)/\Z.cell? (Ad b (94+st.p.nn*2))=some (aH E.1)/\Z.cell? (Ad b (94+st.p.nn*2+1))=some (aH E.2)) (first|exact⟨e0,e1,e2,e3,e4,e5,e6,e7⟩|exact⟨f0,f1,f2,f3,f4,f5,v0,v1⟩|go_keep) (first|(go_at_call 214;refine ad.mono ?_;rintro q w4 ⟨rfl,o,e6,e7⟩;have T:=aG o;obtain⟨e0,e1,e2,e3,e4,e5⟩:=aa w4 o.2;clear o))
 all_goals go_wp2_with fail
 all_goals go_end0
 all_goals exact⟨rfl,T.1,j.trans' (⟨T.2.os,T.2.tape,T.2.output,T.2.size,T.2.block⟩:aC (aK b) L w4) (fun i e=>.inl e)⟩
end Go.Proofs.YtajfbbldaiaolaaGreatDoor
