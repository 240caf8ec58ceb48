import Derived.Test.YtajfbbldaiaolaaGreatDoorQ17
set_option linter.unusedSimpArgs false
set_option linter.unusedVariables false
set_option maxRecDepth 100000
set_option maxHeartbeats 2000000
namespace Go.Proofs.YtajfbbldaiaolaaGreatDoor
open Go.RowKit Go.Shelf
variable {b:Nat}{v w:World}
theorem rS(g f:Nat)(r:List Pa):∀(i:Nat) (l:List Nat),(gP g f r i l).length=l.length:=by
 induction r with
 |nil=>intro i l;rfl
 |cons a r ih=>intro i l;show(gP g f r (i+1) _).length=_;rw[ih,jw]
theorem zT(l:List Nat)(f:Nat)(p:Ph)(h:Nat×Nat):(fc l f p h).length=l.length:=by unfold fc;split;rfl;rw[jw]
theorem aY{w':World}(k:Bw v w)(A:aC (aK b) w w')(C:v.heap.size<=b):Bw v w':=by
 refine⟨A.os.trans k.os,A.tape.trans k.tape,A.output.trans k.output,Nat.le_trans k.size A.size,fun i B=>(A.block i (Nat.lt_of_lt_of_le B k.size) (fun e=>?_)).trans (k.block i B)⟩
 have:i=b:=e
 omega
namespace Rp
def newG(x:Rp)(l:List Nat)(s m:Nat):List Nat:=fc l (x.st s).fn (x.st s).p (aW m,0)
def goG(x:Rp)(l:List Nat)(s m:Nat):List Nat:=fc (gP (x.st s).p.nn (x.st s).fn (x.st s).r 0 l) (x.st s).fn (x.st s).p (0,aW m)
end Rp
theorem Ir{a d s m j n:Nat}{x:Rp}{f:Nat->Option Nat}{l:List Nat}(h:cA v d x)(k:Bw v w)(Z:s< x.stmts.length)(aa:v.heap.size<=b)(R:aM w b (aE l))(hl:l.length=104)(c1:w.cell? (Ad a 1)=some (aF d))(K:lz (x.st s))(hk:(x.st s).p.kind=6)(c2:w.cell? (Ad a 2)=some (.map (some j)))(T:a≠b)(o:iL w j n f)(hf:f s=some m)(N:m< 64)(a7:s<=1000):
  Calls Tryz.prog 145 #[aF a,aF b,aB s] w fun q w'=>q=.returned (.tuple #[])/\aM w' b (aE (x.newG l s m))/\aC (aK b) w w':=by
 obtain⟨g,c,A,sr,sb,z,y,z5,z6,z7,B,F,a9,M,ab⟩:=h.stmO k Z
 have G:A≠b:=by omega
 have Q:=R.lt
 have ad:a< w.heap.size:=aD c1
 have ac:d< w.heap.size:=aD z
 have ae:g< w.heap.size:=aD y
 have a0:=Z
 unfold Rp.newG
 have d2:w.cell? (Ad A 2)=some (aB 6):=by rw[B.cell 2];simp[bK,hk]
 have P:=K.fn
 have O:=K.ln
 have SO:=aG K
 generalize x.st s=st at *
 have t:=B.lt
 have J:Hid (∀w',aC (aK b) (ek w b A st.fn st.nx st.ins).drew w'->Ce w' w.heap.size 0 (aF b)/\Ce w' (w.heap.size+1) 0 (aF A)/\Ce w' (w.heap.size+1) 1 (aB st.fn)/\Ce w' (w.heap.size+1) 2 (aB st.nx)/\Ce w' (w.heap.size+1) 3 (aB st.ins)/\w'.cell? (Ad a 2)=some (.map (some j))):=fun w' D=>by
  have C:aC (aK b) (ek w b A st.fn st.nx st.ins) w':=⟨D.os,D.tape,D.output,D.size,D.block⟩
  obtain⟨a1,a2,a3,a4,a5,a6⟩:=iS C Q B G
  have kw:=(aC.of_below (S:=aK b) (aU w b A st.fn st.nx st.ins)).trans' C (fun i e=>.inl e)
  have V:=kc kw c2 T
  exact⟨a1,a2,a3,a4,a5,V⟩
 obtain⟨g0,g1,g2,g3,g4,g5⟩:=J _ (aC.refl _ _)
 have H:aM (ek w b A st.fn st.nx st.ins).drew b (aE l):=R.below (aU w b A st.fn st.nx st.ins).drew
 have E:aM (ek w b A st.fn st.nx st.ins).drew A (bK st.p sr sb):=B.below (aU w b A st.fn st.nx st.ins).drew
 have HD:Hid ((w.alloc (.cells #[aF b] 313)).alloc (.cells #[aF A,aB st.fn,aB st.nx,aB st.ins] 253)=(ek w b A st.fn st.nx st.ins)):=rfl
 have X:=aG (aU w b A st.fn st.nx st.ins)
 have a8:(Instr.lookup 295 (.map (some j)) (aB s) false).run Tryz.prog (ek w b A st.fn st.nx st.ins).drew=.ok (aB (m:Nat)) (ek w b A st.fn st.nx st.ins).drew:=by
  have:=(o.keep (aU w b A st.fn st.nx st.ins).drew).look s (by omega)
  rw[hf]at this
  exact this
 have W:=aG (uV m N)
 have Y:Hid (Ca 214 #[aF b,.agg #[aF A,aB st.fn,aB st.nx,aB st.ins],.agg #[aH (aW m:Nat),aH 0]] (ek w b A st.fn st.nx st.ins).drew fun r w'=>r=.returned (.tuple #[])/\aM w' b (aE (fc l st.fn st.p (aW m,0)))/\aC (aK b) (ek w b A st.fn st.nx st.ins).drew w'):=rT (h:=(aW m,0)) H E hl G P O
 clear h k B F M H E R K o
 go_in
 go_wp2_with fail
 rw[HD.out]
 go_region_held3 (fun w'=>Ce w' w.heap.size 0 (aF b)/\Ce w' (w.heap.size+1) 0 (aF A)/\Ce w' (w.heap.size+1) 1 (aB st.fn)/\Ce w' (w.heap.size+1) 2 (aB st.nx)/\Ce w' (w.heap.size+1) 3 (aB st.ins)/\Ce w' a 2 (.map (some j))) (first|exact⟨e0,e1,e2,e3,e4,e5⟩|exact⟨g0,g1,g2,g3,g4,g5⟩|go_keep) (first|(go_at_call 218;refine(W _).mono ?_;rintro q wq ⟨rfl,L⟩;subst wq)|(go_at_call 214;refine Y.mono ?_;rintro q w3 ⟨rfl,L⟩;have u:=aG L;obtain⟨e0,e1,e2,e3,e4,e5⟩:=J _ L.2;clear L))
 all_goals go_wp2_with fail
 all_goals go_end0
 all_goals exact⟨rfl,u.1,(aC.of_below (S:=aK b) X.drew).trans' u.2 (fun i e=>.inl e)⟩
theorem Kv{a d s m:Nat}{x:Rp}{l:List Nat}(h:cA v d x)(k:Bw v w)(hs:s< x.stmts.length)(a8:v.heap.size<=b)(hb:aM w b (aE l))(hl:l.length=104)(c1:w.cell? (Ad a 1)=some (aF d))(M:lz (x.st s))(hk:(x.st s).p.kind=7)(aa:a≠b)(R:x.startAt s=some m)(z:m< 64)(y:x.starts.length< 64):
  Calls Tryz.prog 145 #[aF a,aF b,aB s] w fun q w'=>q=.returned (.tuple #[])/\aM w' b (aE (x.goG l s m))/\aC (aK b) w w':=by
 obtain⟨g,c,A,sr,sb,z3,z4,z5,z6,z7,C,K,ar,V,au⟩:=h.stmO k hs
 have H:A≠b:=by omega
 have a7:=hb.lt
 have aw:a< w.heap.size:=aD c1
 have av:d< w.heap.size:=aD z3
 have ax:g< w.heap.size:=aD z4
 have ap:=hs
 unfold Rp.goG
 have d2:w.cell? (Ad A 2)=some (aB 7):=by rw[C.cell 2];simp[bK,hk]
 have Y:=M.fn
 have a0:=M.ln
 have SO:=aG M
 generalize x.st s=st at *
 have an:=C.lt
 have N:Hid (∀w',aC (aK b) (ek w b A st.fn st.nx st.ins).drew w'->Ce w' w.heap.size 0 (aF b)/\Ce w' (w.heap.size+1) 0 (aF A)/\Ce w' (w.heap.size+1) 1 (aB st.fn)/\Ce w' (w.heap.size+1) 2 (aB st.nx)/\Ce w' (w.heap.size+1) 3 (aB st.ins)/\w'.cell? (Ad a 1)=some (aF d)):=fun w' F=>by
  have Q:aC (aK b) (ek w b A st.fn st.nx st.ins) w':=⟨F.os,F.tape,F.output,F.size,F.block⟩
  obtain⟨a1,a2,a3,a4,a5,a6⟩:=iS Q a7 C H
  have kw:=(aC.of_below (S:=aK b) (aU w b A st.fn st.nx st.ins)).trans' Q (fun i e=>.inl e)
  have ab:=kc kw c1 aa
  exact⟨a1,a2,a3,a4,a5,ab⟩
 obtain⟨g0,g1,g2,g3,g4,g5⟩:=N _ (aC.refl _ _)
 have Z:aM (ek w b A st.fn st.nx st.ins).drew b (aE l):=hb.below (aU w b A st.fn st.nx st.ins).drew
 have T:aM (ek w b A st.fn st.nx st.ins).drew A (bK st.p sr sb):=C.below (aU w b A st.fn st.nx st.ins).drew
 have HD:Hid ((w.alloc (.cells #[aF b] 313)).alloc (.cells #[aF A,aB st.fn,aB st.nx,aB st.ins] 253)=(ek w b A st.fn st.nx st.ins)):=rfl
 have aj:=aG (aU w b A st.fn st.nx st.ins)
 have ah:Hid (∀W,Bw v W->Ca 162 #[aF d,aB s] W (Ru W (.tuple #[aB (m:Nat),.bool true]))):=fun W F=>by
  have:=uO (s:=s) (h.keep F) y
  unfold qh at this
  unfold Rp.startAt at this R
  rw[R]at this
  exact this
 have ai:=aG (kO m z)
 have X:(ek w b A st.fn st.nx st.ins).ownsRow 0 258 4 sr st.r.length (eF st.r):=aP K (aU w b A st.fn st.nx st.ins)
 have al:=aG (Gn (f:=st.fn) (nx:=st.nx) (ins:=st.ins) (w:=(ek w b A st.fn st.nx st.ins)) (Z.below ⟨rfl,rfl,rfl,Nat.le_refl _,fun _ _=>rfl⟩) (T.below ⟨rfl,rfl,rfl,Nat.le_refl _,fun _ _=>rfl⟩) X (fun i e=>by have:=V i e;omega) hl H Y M.nn M.len M.num)
 have am:Hid (∀P,aC (aK b) (ek w b A st.fn st.nx st.ins) P->aM P b (aE (gP st.p.nn st.fn st.r 0 l))->Ca 214 #[aF b,.agg #[aF A,aB st.fn,aB st.nx,aB st.ins],.agg #[aH 0,aH (aW m:Nat)]] P fun r w'=>r=.returned (.tuple #[])/\aM w' b (aE (fc (gP st.p.nn st.fn st.r 0 l) st.fn st.p (0,aW m)))/\aC (aK b) P w'):=fun P k2 a9=>rT (h:=(0,aW m)) a9 ((C.below (aU w b A st.fn st.nx st.ins)).kept k2 H) (by rw[rS];exact hl) H Y a0
 have HK:=aG k
 have ag:Ce (ek w b A st.fn st.nx st.ins) w.heap.size 0 (aF b):=g0
 have af:Ce (ek w b A st.fn st.nx st.ins) (w.heap.size+1) 0 (aF A):=g1
 have ae:Ce (ek w b A st.fn st.nx st.ins) (w.heap.size+1) 1 (aB st.fn):=g2
 have ad:Ce (ek w b A st.fn st.nx st.ins) (w.heap.size+1) 2 (aB st.nx):=g3
 have ac:Ce (ek w b A st.fn st.nx st.ins) (w.heap.size+1) 3 (aB st.ins):=g4
 clear h k C K V Z T hb M X
 go_in
 go_wp2_with fail
 rw[HD.out]
 refine al.mono ?_
 rintro q J ⟨rfl,E,B⟩
 have L:aC (aK b) (ek w b A st.fn st.nx st.ins).drew J:=⟨B.os,B.tape,B.output,B.size,B.block⟩
 have D:=(aC.of_below (S:=aK b) aj).trans' B (fun i e=>.inl e)
 obtain⟨ak,ao,o,n⟩:=fK B E D (ah J (aY HK D a8))
 obtain⟨f0,f1,f2,f3,f4,f5⟩:=N J L
 have aq:a< J.heap.size:=aD f5
 have j:Hid (∀w',aC (aK b) J w'->Ce w' w.heap.size 0 (aF b)/\Ce w' (w.heap.size+1) 0 (aF A)/\Ce w' (w.heap.size+1) 1 (aB st.fn)/\Ce w' (w.heap.size+1) 2 (aB st.nx)/\w'.cell? (Ad (w.heap.size+1) 3)=some (aB st.ins)):=fun w' F=>by
  obtain⟨i0,i1,i2,i3,i4,_⟩:=N w' (ak.trans' F (fun i e=>.inl e) |> fun q=>⟨q.os,q.tape,q.output,q.size,q.block⟩)
  exact⟨i0,i1,i2,i3,i4⟩
 have t:=aG (am J.drew ⟨B.os,B.tape,B.output,B.size,B.block⟩ (E.below ⟨rfl,rfl,rfl,Nat.le_refl _,fun _ _=>rfl⟩))
 clear B L D E g0 g1 g2 g3 g4 g5 ag af ae ad ac
 go_wp2_with fail
 refine n.mono ?_
 rintro q u ⟨rfl,G⟩
 subst u
 go_wp2_with fail
 go_region_held3 (fun w'=>Ce w' w.heap.size 0 (aF b)/\Ce w' (w.heap.size+1) 0 (aF A)/\Ce w' (w.heap.size+1) 1 (aB st.fn)/\Ce w' (w.heap.size+1) 2 (aB st.nx)/\Ce w' (w.heap.size+1) 3 (aB st.ins)) (first|exact⟨e0,e1,e2,e3,e4⟩|exact⟨f0,f1,f2,f3,f4⟩|go_keep) (first|(go_at_call 163;refine(ai _).mono ?_;rintro q u ⟨rfl,G⟩;subst u)|(go_at_call 214;refine t.mono ?_;rintro q w4 ⟨rfl,G⟩;have O:=aG G;obtain⟨e0,e1,e2,e3,e4⟩:=j _ (⟨G.2.os,G.2.tape,G.2.output,G.2.size,G.2.block⟩:aC (aK b) J w4);clear G))
 all_goals go_wp2_with fail
 all_goals go_end0
 all_goals exact⟨rfl,O.1,o.trans' (⟨O.2.os,O.2.tape,O.2.output,O.2.size,O.2.block⟩:aC (aK b) J w4) (fun i e=>.inl e)⟩
end Go.Proofs.YtajfbbldaiaolaaGreatDoor
