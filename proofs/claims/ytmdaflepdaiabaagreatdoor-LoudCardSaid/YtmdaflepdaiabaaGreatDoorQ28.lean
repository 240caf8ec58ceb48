import Derived.Test.YtmdaflepdaiabaaGreatDoorQ27
set_option linter.unusedSimpArgs false
set_option linter.unusedVariables false
namespace Go.Proofs.YtmdaflepdaiabaaGreatDoor
section
set_option maxRecDepth 100000
set_option maxHeartbeats 2000000
open Go.RowKit Go.Shelf
theorem tM{p:Ph}{r:List Pa}{l:List dx}{bls:List (List dx)}(h14:p.kind=14)(hl:xi l):xd (.mk p r (l::bls)):=by
 intro w W P b fn nx bF g n tb hR hok hT
 have hfl:yt fn (.mk p r (l::bls)) nx (er tb)=(iF fn l p.place (er tb)).1.set p.place (some ⟨p,r,fn,nx,(iF fn l p.place (er tb)).2⟩):=by
  rw[yt,if_neg (by omega),if_pos h14]
 rw[hfl]
 cases hR with
 |@mk _ Q _ _ sr sb _ _ vs hPb hB h1 h2 h3 h4=>
 have hBW:=hB.below hT.kp
 obtain⟨v,bb,hv,hvo,Q2,hQ2⟩:=h3.get (k:=0) (l:=l) rfl
 obtain⟨gs,cs,rfl⟩:=aG h2.1 (by simp)
 have c1:W.cell? ⟨b,1,none⟩=some (.int .i64 p.place):=hBW.cell 1
 have c2:W.cell? ⟨b,2,none⟩=some (.int .i64 p.kind):=hBW.cell 2
 have c13:W.cell? ⟨b,13,none⟩=some (.slice (some ⟨gs,0,none⟩) (l::bls).length cs):=hBW.cell 13
 have cv:W.cell? ⟨gs,0,none⟩=some v:=cZ (ay h2.1 hT.kp) hv
 obtain⟨pv,cw,rfl⟩:=ai hvo
 have hlb:=hBW.lt
 have hls:=ah cv
 have e13:((p.kind:Int)==13)=false:=by rw[beq_eq_false_iff_ne];omega
 have e14:((p.kind:Int)==14)=true:=by rw[beq_iff_eq];omega
 have c3:=hT.sl
 have l3:=ah c3
 have lg:=(Array.getElem?_eq_some_iff.1 hT.row).1
 have hws:=hT.kp.size
 simp only[xU,BA,Bool.and_eq_true,decide_eq_true_eq]at hok
 have hpl:p.place< n:=hok.1.1.1
 have kA:Below W.heap.size W (W.alloc (.cells #[ak b,.int .i64 fn,.int .i64 nx,.int .i64 0] 197)):=(Below.refl _ W).alloc (Nat.le_refl _) _
 obtain⟨D,hD⟩:∃D,D=W.alloc (.cells #[ak b,.int .i64 fn,.int .i64 nx,.int .i64 0] 197):=⟨_,rfl⟩
 rw[←hD]at kA
 have HPO:Hid (ej w W D b fn g bF n nx 0 p r tb W.heap.size):=
  ⟨hT.below kA,ae.of_below kA,by rw[hD];exact an.new _ _ _,⟨sr,_,hB,h1.1⟩,hpl,by omega⟩
 have HBL:=aa (hl w D.drew Q2 bb _ fn p.place bF g n tb hQ2 hvo hok.2.1 ((hT.below kA).below ((Below.refl _ _).drew)))
 have HD:=aa hD
 have hzp:(0:Int)< ((l::bls).length:Int):=by simp
 have d1:D.cell? ⟨b,1,none⟩=some (.int .i64 p.place):=(kA.cell (p:=⟨b,1,none⟩) hlb).trans c1
 have d13:D.cell? ⟨b,13,none⟩=some (.slice (some ⟨gs,0,none⟩) (l::bls).length cs):=(kA.cell (p:=⟨b,13,none⟩) hlb).trans c13
 have dv:D.cell? ⟨gs,0,none⟩=some (.slice pv bb.length cw):=(kA.cell (p:=⟨gs,0,none⟩) hls).trans cv
 have HL3:=aa l3
 have HWS:=aa hws
 clear hB h1 h2 h3 h4 hBW hT hok kA hfl hPb hvo hQ2 hD hv
 go_enter Tryz.func73,Tryz.ntmps73
 go_wp2_with fail
 rw[←HD.out]
 clear c1 c2 c3 c13 cv hlb hls l3 lg hws e13 e14 HD
 go_region_with (go_at_call 50;refine HBL.out.mono ?_;rintro q W2 ⟨rfl,tb2,e2,hT2,hK2⟩;obtain⟨y0,y1,y2,y3,y4⟩:W2.cell? ⟨W.heap.size,0,none⟩=some (ak b)∧W2.cell? ⟨W.heap.size,1,none⟩=some (.int .i64 fn)∧W2.cell? ⟨W.heap.size,2,none⟩=some (.int .i64 nx)∧W2.cell? ⟨W.heap.size,3,none⟩=some (.int .i64 0)∧W2.frozen? ⟨W.heap.size,3,none⟩=false:=(fun h=>⟨h.cell 0,h.cell 1,h.cell 2,h.cell 3,h.fz 3⟩) (HPO.out.box.only (w':=W2) ⟨hK2.os,hK2.tape,hK2.output,hK2.size,hK2.block⟩ HPO.out.ne))
 all_goals
  obtain⟨X,hX⟩:∃X,X=W2.setCell ⟨W.heap.size,3,none⟩ (.int .i64 (iF fn l (p.place) (er tb)).2):=⟨_,rfl⟩
  have HPX:Hid (ej w W X b fn g bF n nx (iF fn l (p.place) (er tb)).2 p r tb2 W.heap.size):=by
   show ej _ _ _ _ _ _ _ _ _ _ _ _ _ _
   rw[hX]
   exact(HPO.out.step hT2 ⟨hK2.os,hK2.tape,hK2.output,hK2.size,hK2.block⟩).ins (Nat.le_refl _) HL3.out HWS.out _
  rw[←hX]
  have HE2:=aa e2
  clear hX hT2 hK2 y0 y1 y2 y3 y4 d1 d13 dv HPO HBL e2
  generalize hins:(iF fn l (p.place) (er tb)).2=ins at HPX⊢
  have HINS:=aa hins
  clear hins
  obtain⟨sr',sb',hB',_⟩:=HPX.out.bs
  obtain⟨v0,v1,v2,v3,g0,g1,g2,g3,f0,f1,f2,f3⟩:=HPX.out.cells
  have d3:X.cell? ⟨bF,3,none⟩=some (.slice (some ⟨g,0,none⟩) n n):=HPX.out.fw.sl
  have d1:X.cell? ⟨b,1,none⟩=some (.int .i64 p.place):=(hB'.below HPX.out.fw.kp).cell 1
  have x0:X.cell? ⟨W.heap.size,0,none⟩=some (ak b):=HPX.out.box.cell 0
  have x1:X.cell? ⟨W.heap.size,1,none⟩=some (.int .i64 fn):=HPX.out.box.cell 1
  have x2:X.cell? ⟨W.heap.size,2,none⟩=some (.int .i64 nx):=HPX.out.box.cell 2
  have x3:X.cell? ⟨W.heap.size,3,none⟩=some (.int .i64 ins):=HPX.out.box.cell 3
  have hp0:(0:Int)≤p.place:=by omega
  have hpn:(p.place:Int)< n:=by have:=HPX.out.pl;omega
  have lg:=ah g0
  have hn1:bF≠g:=Ne.symm HPX.out.fw.ne
  have hn2:b≠g:=by have:=hB'.lt;have:=HPX.out.fw.hg;omega
  have hn3:W.heap.size≠g:=HPX.out.ne
  clear hB'
  go_wp2_with fail
  go_region
  go_end0
  obtain⟨q1,q2⟩:=HPX.out.fw.put (k:=p.place) (b:=b) (s:=⟨p,r,fn,nx,ins⟩) HPX.out.pl HPX.out.bs
  exact⟨rfl,_,(sw _ _ _).trans (by rw[HE2.out,HINS.out]),⟨q1.sl,q1.row,q1.len,q1.kp.drew,q1.hg,q1.hF,q1.ne,q1.at'⟩,(HPX.out.kp.trans' q2 (fun i e=>.inl e)).drew'⟩
end
section
set_option maxRecDepth 100000
set_option maxHeartbeats 2000000
open Go.RowKit Go.Shelf
theorem zg{p:Ph}{r:List Pa}{l:List dx}(h13:p.kind=13)(hl:xi l):xd (.mk p r [l]):=by
 intro w W P b fn nx bF g n tb hR hok hT
 have hfl:yt fn (.mk p r [l]) nx (er tb)=(iF fn l nx (er tb)).1.set p.place (some ⟨p,r,fn,nx,(iF fn l nx (er tb)).2⟩):=by
  rw[yt,if_pos h13]
  rfl
 rw[hfl]
 cases hR with
 |@mk _ Q _ _ sr sb _ _ vs hPb hB h1 h2 h3 h4=>
 have hBW:=hB.below hT.kp
 obtain⟨v,bb,hv,hvo,Q2,hQ2⟩:=h3.get (k:=0) (l:=l) rfl
 obtain⟨gs,cs,rfl⟩:=aG h2.1 (by simp)
 have c2:W.cell? ⟨b,2,none⟩=some (.int .i64 p.kind):=hBW.cell 2
 have c13:W.cell? ⟨b,13,none⟩=some (.slice (some ⟨gs,0,none⟩) 1 cs):=hBW.cell 13
 have cv:W.cell? ⟨gs,0,none⟩=some v:=cZ (ay h2.1 hT.kp) hv
 obtain⟨pv,cw,rfl⟩:=ai hvo
 have hlb:=hBW.lt
 have hls:=ah cv
 have e13:((p.kind:Int)==13)=true:=by rw[beq_iff_eq];omega
 have c3:=hT.sl
 have l3:=ah c3
 have lg:=(Array.getElem?_eq_some_iff.1 hT.row).1
 have hws:=hT.kp.size
 simp only[xU,BA,Bool.and_eq_true,decide_eq_true_eq]at hok
 have hpl:p.place< n:=hok.1.1.1
 have kA:Below W.heap.size W (W.alloc (.cells #[ak b,.int .i64 fn,.int .i64 nx,.int .i64 0] 197)):=(Below.refl _ W).alloc (Nat.le_refl _) _
 obtain⟨D,hD⟩:∃D,D=W.alloc (.cells #[ak b,.int .i64 fn,.int .i64 nx,.int .i64 0] 197):=⟨_,rfl⟩
 rw[←hD]at kA
 have HPO:Hid (ej w W D b fn g bF n nx 0 p r tb W.heap.size):=
  ⟨hT.below kA,ae.of_below kA,by rw[hD];exact an.new _ _ _,⟨sr,_,hB,h1.1⟩,hpl,by omega⟩
 have HBL:=aa (hl w D Q2 bb _ fn nx bF g n tb hQ2 hvo hok.2.1 (hT.below kA))
 have HD:=aa hD
 have hzp:(0:Int)< ([l].length:Int):=by simp
 have HL3:=aa l3
 have HWS:=aa hws
 have HB:=aa hB
 clear hB h1 h2 h3 h4 hBW hT hok kA hfl hPb hvo hQ2 hD hv
 go_enter Tryz.func73,Tryz.ntmps73
 go_wp2_with fail
 rw[show W.alloc (Obj.cells #[Value.pointer (some {block:=b,off:=0}),Value.int IntKind.i64 fn,Value.int IntKind.i64 nx,Value.int IntKind.i64 0] 197)=D from HD.out.symm]
 refine HBL.out.mono ?_
 rintro q W2 ⟨rfl,tb2,e2,hT2,hK2⟩
 have hbx:=HPO.out.box.only hK2 HPO.out.ne
 have y3:W2.cell? ⟨W.heap.size,3,none⟩=some (.int .i64 0):=hbx.cell 3
 have y4:W2.frozen? ⟨W.heap.size,3,none⟩=false:=hbx.fz 3
 have hl2:=hbx.lt
 obtain⟨X,hX⟩:∃X,X=W2.setCell ⟨W.heap.size,3,none⟩ (.int .i64 (iF fn l nx (er tb)).2):=⟨_,rfl⟩
 have HPX:Hid (ej w W X b fn g bF n nx (iF fn l nx (er tb)).2 p r tb2 W.heap.size):=by
  show ej _ _ _ _ _ _ _ _ _ _ _ _ _ _
  rw[hX]
  exact(HPO.out.step hT2 hK2).ins (Nat.le_refl _) HL3.out HWS.out _
 have k13:(W2.setCell ⟨W.heap.size,3,none⟩ (.int .i64 (iF fn l nx (er tb)).2)).cell? ⟨b,13,none⟩=some (.slice (some ⟨gs,0,none⟩) 1 cs):=by
  rw[←hX];exact(HB.out.below HPX.out.fw.kp).cell 13
 have HX:=aa hX
 have HE2:=aa e2
 clear hX hT2 hK2 e2 hbx HBL HPO c2 c13 cv hls e13 c3 l3 lg hws HD
 go_wp2_with fail
 rw[←HX.out]
 clear k13 y3 y4 hl2 HX
 generalize hins:(iF fn l nx (er tb)).2=ins at HPX⊢
 have HINS:=aa hins
 clear hins
 obtain⟨sr',sb',hB',_⟩:=HPX.out.bs
 obtain⟨v0,v1,v2,v3,g0,g1,g2,g3,f0,f1,f2,f3⟩:=HPX.out.cells
 have d3:X.cell? ⟨bF,3,none⟩=some (.slice (some ⟨g,0,none⟩) n n):=HPX.out.fw.sl
 have d1:X.cell? ⟨b,1,none⟩=some (.int .i64 p.place):=(hB'.below HPX.out.fw.kp).cell 1
 have x0:X.cell? ⟨W.heap.size,0,none⟩=some (ak b):=HPX.out.box.cell 0
 have x1:X.cell? ⟨W.heap.size,1,none⟩=some (.int .i64 fn):=HPX.out.box.cell 1
 have x2:X.cell? ⟨W.heap.size,2,none⟩=some (.int .i64 nx):=HPX.out.box.cell 2
 have x3:X.cell? ⟨W.heap.size,3,none⟩=some (.int .i64 ins):=HPX.out.box.cell 3
 have hp0:(0:Int)≤p.place:=by omega
 have hpn:(p.place:Int)< n:=by have:=HPX.out.pl;omega
 have lg:=ah g0
 have hn1:bF≠g:=Ne.symm HPX.out.fw.ne
 have hn2:b≠g:=by have:=hB'.lt;have:=HPX.out.fw.hg;omega
 have hn3:W.heap.size≠g:=HPX.out.ne
 clear hB'
 go_wp2_with fail
 go_region
 go_end0
 obtain⟨q1,q2⟩:=HPX.out.fw.put (k:=p.place) (b:=b) (s:=⟨p,r,fn,nx,ins⟩) HPX.out.pl HPX.out.bs
 exact⟨rfl,_,(sw _ _ _).trans (by rw[HE2.out,HINS.out]),⟨q1.sl,q1.row,q1.len,q1.kp.drew,q1.hg,q1.hF,q1.ne,q1.at'⟩,(HPX.out.kp.trans' q2 (fun i e=>.inl e)).drew'⟩
end
section
open Go.RowKit Go.Shelf
theorem xA(m:Nat):∀s:dx,SizeOf.sizeOf s< m→xd s:=by
 induction m with
 |zero=>intro s h;omega
 |succ m ih=>
  intro s hs
  obtain⟨p,r,bls⟩:=s
  have hsub:∀l∈bls,xi l:=fun l hl=>wJ (fun s hsl=>ih s (by
   have h1:=List.sizeOf_lt_of_mem hl
   have h2:=List.sizeOf_lt_of_mem hsl
   simp at hs
   omega))
  by_cases h13:p.kind=13
  ·cases bls with
   |nil=>
    intro w W P b fn nx bF g n tb hR hok hT
    simp[xU,h13]at hok
   |cons l bls=>
    cases bls with
    |nil=>exact zg h13 (hsub l (by simp))
    |cons c cs=>
     intro w W P b fn nx bF g n tb hR hok hT
     simp[xU]at hok
  by_cases h14:p.kind=14
  ·cases bls with
   |nil=>
    intro w W P b fn nx bF g n tb hR hok hT
    simp[xU,h14]at hok
   |cons l bls=>exact tM h14 (hsub l (by simp))
  ·exact tN h13 h14
theorem tD(l:List dx):xi l:=wJ (fun s _=>xA (SizeOf.sizeOf s+1) s (by omega))
structure Fw where
 T:yI:=[]
 begins:List Int:=[]
 main:Nat:=0
 mut_:Nat:=0
def oq(z:Fw)(d:Pd):Fw:=
 if d.kind=1 then{z with mut_:=z.mut_+1}
 else if d.kind=2 then
  match iF d.num d.body (-1) z.T with
  |(T1,i)=>{T:=T1,begins:=z.begins++[i],main:=if d.name=[109,97,105,110]then d.num else z.main,mut_:=z.mut_}
 else z
def Bs(l:List Pd)(n:Nat):Fw:=l.foldl oq {T:=List.replicate n none}
def Fw.fl(z:Fw):Fl:={main:=z.main,mutexes:=z.mut_,begins:=z.begins,stmts:=z.T.map (·.getD {})}
structure rx(l:List Pd)(n:Nat):Prop where
 body:∀d∈l,d.kind=2→zK n d.body=true
 all:∀o∈(Bs l n).T,o.isSome=true
 few:l.length< 1000
 nm:n< 1000000
 n0:0< n
structure ko(w:World)(bF g n:Nat)(z:Fw)(wr:World):Prop where
 ex:∃gv tb,wr.heap[bF]?=some (.cells #[gv,.int .i64 z.main,.int .i64 z.mut_,.slice (some ⟨g,0,none⟩) n n] 151 (0,0))∧wr.ownsRow w.heap.size 3 1 gv z.begins.length (z.begins.map (Value.int .i64))∧oA w bF g n tb wr∧er tb=z.T
theorem ko.fin{w wr:World}{bF g n:Nat}{z:Fw}(h:ko w bF g n z wr)(ha:∀o∈z.T,o.isSome=true)(hn:n< 1000000):lE wr bF z.fl:=by
 obtain⟨gv,tb,h1,h2,h3,h4⟩:=h.ex
 have hsome:∀(k:Nat) (o:Option (Nat×Fs)),tb[k]?=some o→∃y,o=some y:=fun k o e=>by
  have:(er tb)[k]?=some (o.map Prod.snd):=by simp[er,e]
  rw[h4]at this
  have:=ha _ (List.mem_of_getElem? this)
  cases o with
  |none=>simp at this
  |some y=>exact⟨y,rfl⟩
 have htb:tb=(tb.map (fun o=>o.getD (0,{}))).map some:=by
  apply List.ext_getElem?
  intro k
  cases e:tb[k]? with
  |none=>simp[e]
  |some o=>
   obtain⟨y,rfl⟩:=hsome k o e
   simp[e]
 obtain⟨ys,hys⟩:∃ys,ys=tb.map (fun o=>o.getD (0,{})):=⟨_,rfl⟩
 rw[←hys]at htb
 have hst:z.fl.stmts=ys.map Prod.snd:=by
  show z.T.map _=_
  rw[←h4,htb]
  simp[er,Function.comp_def]
 have hC:∀l:List (Nat×Fs),fU (l.map some)=iW l:=fun l=>by
  induction l with
  |nil=>rfl
  |cons a l ih=>
   show jJ (some a)++fU (l.map some)=uz a++iW l
   rw[ih];rfl
 have hz:(ys.map Prod.fst).zip (ys.map Prod.snd)=ys:=by
  clear htb hys hst
  induction ys with
  |nil=>rfl
  |cons a l ih=>simp[ih]
 have hlen:ys.length=n:=by rw[←h3.len,htb];simp
 refine⟨gv,_,af h1,cQ h2 0 (Nat.zero_le _),⟨ys.map Prod.fst,by rw[hst];simp,?_,fun k b s hb hs=>?_⟩⟩
 ·rw[hst,hz,List.length_map,hlen]
  refine⟨by rw[qK,hlen],.inr ⟨g,n,_,rfl,Nat.zero_le _,h3.row,Nat.le_refl _,?_,?_,?_⟩⟩
  ·unfold maxLen;omega
  ·rw[List.size_toArray,pL,h3.len]
  ·rw[htb,hC,←hlen,←qK,List.take_length]
 ·rw[hst]at hs
  have e:tb[k]?=some (some (b,s)):=by
   rw[htb]
   rw[List.getElem?_map]at hb hs⊢
   cases ey:ys[k]? with
   |none=>rw[ey]at hb;cases hb
   |some y=>
    rw[ey]at hb hs
    cases hb
    cases hs
    rfl
  obtain⟨sr,sb,h5,h6⟩:=h3.at' k b s e
  exact⟨sr,sb,h5.below h3.kp,ay h6 h3.kp⟩
end
section
set_option maxRecDepth 100000
set_option maxHeartbeats 2000000
open Go.RowKit Go.Shelf
def pW(t:aj):Nat→aj
 |0=>[]
 |n+1=>pW t n++t
theorem dD(t:aj)(n:Nat):(pW t n).length=n*t.length:=by
 induction n with
 |zero=>simp[pW]
 |succ n ih=>rw[pW,List.length_append,ih,Nat.succ_mul]
theorem di(a b:aj):(⟨a.toArray⟩:ByteArray)++(⟨b.toArray⟩:ByteArray)=⟨(a++b).toArray⟩:=by
 apply ByteArray.ext
 rw[ByteArray.data_append]
 simp
theorem fG(t:aj)(ht:t.length< 1000)(n:Nat)(hn:n< 1000)(w:World):
  Calls Tryz.prog 10 #[.string ⟨t.toArray⟩,.int .i64 n] w fun r w'=>r=.returned (.string ⟨(pW t n).toArray⟩)∧w'=w:=by
 go_enter Tryz.func10,Tryz.ntmps10
 go_wp2_with fail
 go_loopw [1,5] (fun i v wr=>∃k:Nat,i=.int .i64 ((n:Int)-k)∧k≤n∧v=.string ⟨(pW t k).toArray⟩∧wr=w) (fun i _ _=>(intOf i).toNat)
 case atStart=>exact⟨0,by simp,Nat.zero_le _,rfl,rfl⟩
 case round=>
  obtain⟨k,rfl,hk,rfl,rfl⟩:=hrel
  by_cases hkn:k=n
  ·have hlt:¬((0:Int)< (n:Int)-k):=by omega
   go_wp2_with fail
   go_ret
   subst hkn
   exact⟨rfl,rfl⟩
  ·have hlt:(0:Int)< (n:Int)-k:=by omega
   have hL:¬9223372036854775807< List.length (pW t k)+List.length t:=by
    rw[dD]
    have:k*t.length≤1000*1000:=Nat.mul_le_mul (by omega) (by omega)
    omega
   go_wp2_with fail
   go_roundw
   case rel=>exact⟨k+1,by congr 1;omega,by omega,by rw[di];rfl,trivial⟩
   case measure=>simp[intOf];omega
theorem yY(c:Int)(m:Nat)(hm:0< m)(hm2:m< 100)(hc:-9223372036854775808≤c∧c≤9223372036854775807)(w:World):
  Calls Tryz.prog 5 #[.int .i64 c,.int .i64 m] w fun r w'=>(∃k:Nat,k< m∧r=.returned (.int .i64 k))∧w'=w:=by
 go_enter Tryz.func5,Tryz.ntmps5
 by_cases h:c< 0
 ·go_wp2_with fail
  go_ret
  obtain⟨u,hu⟩:∃u:Nat,c+1=-(u:Int):=⟨(-(c+1)).toNat,by omega⟩
  refine⟨⟨u%m,Nat.mod_lt _ hm,?_⟩,rfl⟩
  rw[hu,Int.neg_tmod,←Int.ofNat_tmod]
  simp only[Int.neg_neg]
  rfl
 ·go_wp2_with fail
  go_ret
  obtain⟨u,rfl⟩:∃u:Nat,c=(u:Int):=⟨c.toNat,by omega⟩
  exact⟨⟨u%m,Nat.mod_lt _ hm,rfl⟩,rfl⟩
theorem ft(a b f ra rb:Nat)(w:World):
  Calls Tryz.prog 11 #[.int .i64 a,.int .i64 b,.int .i64 f,.int .i64 ra,.int .i64 rb] w fun r w'=>r=.returned (.agg #[.int .i64 a,.int .i64 b,.int .i64 (-1),.int .i64 f,.int .i64 ra,.int .i64 rb,.slice none 0 0,.slice none 0 0])∧w'=w.alloc (.cells #[.int .i64 a,.int .i64 b,.int .i64 (-1),.int .i64 f,.int .i64 ra,.int .i64 rb,.slice none 0 0,.slice none 0 0] 36):=by
 go_enter Tryz.func11,Tryz.ntmps11
 go_wp2_with fail
 refine bodyPost_ret (results_cell_row rfl _ _ w.heap.size 36 #[.int .i64 a,.int .i64 b,.int .i64 (-1),.int .i64 f,.int .i64 ra,.int .i64 rb,.slice none 0 0,.slice none 0 0] (0,0) _ rfl (heap_alloc_new w _) Tryz.underlying36 rfl ew) rfl ⟨rfl,rfl⟩
theorem yX{w:World}{u v:Value}{l:List Nat}{B C:Nat}(hu:w.ownsRow B 3 1 u l.length (bV l))(hv:w.ownsRow C 3 1 v l.length (bV l)):
  Calls Tryz.prog 15 #[u,v] w fun r w'=>r=.returned (.bool true)∧∃m,w'=w.drewN m:=by
 obtain⟨pu,cu,rfl⟩:=ai hu
 obtain⟨pv,cv,rfl⟩:=ai hv
 have hml:l.length≤maxLen:=by
  rcases hu.2 with⟨_,h⟩|⟨_,cap,_,_,_,_,h1,h2,_⟩<;>omega
 unfold maxLen at hml
 have HU:=aa hu
 have HV:=aa hv
 clear hu hv
 go_enter Tryz.func15,Tryz.ntmps15
 go_wp2_with fail
 go_loopw [5] (fun i wr=>∃k:Nat,i=.int .i64 k∧k≤l.length∧Hid (∃m,wr=w.drewN m)) (fun i _=>l.length-(intOf i).toNat)
 case atStart=>exact⟨0,rfl,Nat.zero_le _,0,rfl⟩
 case round=>
  obtain⟨k,rfl,hk,HB⟩:=hrel
  by_cases hkl:k=l.length
  ·have hlt:¬((k:Int)< (l.length:Int)):=by omega
   go_wp2_with fail
   go_ret
   exact⟨rfl,HB.out⟩
  ·have hlt:(k:Int)< (l.length:Int):=by omega
   have hk0:(0:Int)≤k:=by omega
   obtain⟨gu,cu',e⟩:=aG HU.out (by omega)
   cases e
   obtain⟨gv,cv',e⟩:=aG HV.out (by omega)
   cases e
   obtain⟨x,hx⟩:∃x,l[k]?=some x:=⟨l[k]'(by omega),List.getElem?_eq_getElem (by omega)⟩
   obtain⟨m,hm⟩:=HB.out
   have hbl:Below w.heap.size w wr:=by rw[hm];exact az (Below.refl _ _) _
   have a1:wr.cell? ⟨gu,k,none⟩=some (.int .i64 x):=cZ (ay HU.out hbl) (by simp[bV,hx])
   have a2:wr.cell? ⟨gv,k,none⟩=some (.int .i64 x):=cZ (ay HV.out hbl) (by simp[bV,hx])
   have HB2:Hid (∀nq,∃m,wr.drewN nq=w.drewN m):=fun nq=>⟨m+nq,by rw[hm,World.drewN_drewN]⟩
   clear hm hbl HB
   go_wp2_with fail
   go_quiet (fail)
   go_wp2_with fail
   go_roundw
   case rel=>exact⟨k+1,by go_num,by omega,HB2.out _⟩
   case measure=>simp[intOf];omega
structure jk(w:World)(g o:Nat)(z:dd):Prop where
 c0:w.cell? ⟨g,o,none⟩=some (.int .i64 z.1.a)
 c1:w.cell? ⟨g,o+1,none⟩=some (.int .i64 z.1.b)
 c2:w.cell? ⟨g,o+2,none⟩=some (.int .i64 z.1.new)
 c3:w.cell? ⟨g,o+3,none⟩=some (.int .i64 z.1.field)
 c4:w.cell? ⟨g,o+4,none⟩=some (.int .i64 z.1.ra)
 c5:w.cell? ⟨g,o+5,none⟩=some (.int .i64 z.1.rb)
 c6:w.cell? ⟨g,o+6,none⟩=some z.2.1
 c7:w.cell? ⟨g,o+7,none⟩=some z.2.2
theorem jk.below{w w':World}{g o:Nat}{z:dd}(h:jk w g o z)(k:Below w.heap.size w w'):jk w' g o z:=
 have l:=ah h.c0
 ⟨(k.cell (p:=⟨g,o,none⟩) l).trans h.c0,(k.cell (p:=⟨g,o+1,none⟩) l).trans h.c1,(k.cell (p:=⟨g,o+2,none⟩) l).trans h.c2,(k.cell (p:=⟨g,o+3,none⟩) l).trans h.c3,(k.cell (p:=⟨g,o+4,none⟩) l).trans h.c4,(k.cell (p:=⟨g,o+5,none⟩) l).trans h.c5,(k.cell (p:=⟨g,o+6,none⟩) l).trans h.c6,(k.cell (p:=⟨g,o+7,none⟩) l).trans h.c7⟩
theorem Aa{w:World}{g o g' o':Nat}{r:jp}{la lb la' lb':Value}(h:jk w g o (r,la,lb))(h':jk w g' o' (r,la',lb'))(hg:eo (r,la,lb) w)(hg':eo (r,la',lb') w):
  Calls Tryz.prog 9 #[.pointer (some ⟨g,o,none⟩),.pointer (some ⟨g',o',none⟩)] w fun e w'=>e=.returned (.bool true)∧∃m,w'=w.drewN m:=by
 have HS1:Hid (∀m,Calls Tryz.prog 15 #[la,la'] (w.drewN m) fun r w'=>r=.returned (.bool true)∧∃k,w'=(w.drewN m).drewN k):=fun m=>yX (ay hg.1 (az (Below.refl _ _) _)) (ay hg'.1 (az (Below.refl _ _) _))
 have HS2:Hid (∀W,Below w.heap.size w W→Calls Tryz.prog 15 #[lb,lb'] W fun r w'=>r=.returned (.bool true)∧∃k,w'=W.drewN k):=fun W k=>yX (ay hg.2 k) (ay hg'.2 k)
 have a6:=h.c6
 have b6:=h'.c6
 have HH:=aa h
 have HH':=aa h'
 dsimp only at a6 b6
 clear h h' hg hg'
 go_enter Tryz.func9,Tryz.ntmps9
 go_wp2_with fail
 go_quiet ((go_at_call 15;exact Calls.quiet_of (HS1.out _)))
 clear a6 b6 HS1
 obtain⟨W,hW⟩:∃W,W=w.drewN nq:=⟨_,rfl⟩
 rw[←hW]
 have kW:Below w.heap.size w W:=by rw[hW];exact az (Below.refl _ _) _
 have a7:=(HH.out.below kW).c7
 have b7:=(HH'.out.below kW).c7
 dsimp only at a7 b7
 have HKW:=aa kW
 have HMW:Hid (∃m,W=w.drewN m):=⟨_,hW⟩
 clear hW kW
 go_wp2_with fail
 go_quiet ((go_at_call 15;exact Calls.quiet_of (HS2.out _ (az HKW.out _))))
 clear a7 b7 HS2
 obtain⟨X,hX⟩:∃X,X=W.drewN nq:=⟨_,rfl⟩
 rw[←hX]
 have kX:Below w.heap.size w X:=by rw[hX];exact az HKW.out _
 obtain⟨a0,a1,a2,a3,a4,a5,-,-⟩:=HH.out.below kX
 obtain⟨b0,b1,b2,b3,b4,b5,-,-⟩:=HH'.out.below kX
 dsimp only at a0 a1 a2 a3 a4 a5 b0 b1 b2 b3 b4 b5
 have HKX:=aa kX
 have HMX:Hid (∃m,X=w.drewN m):=by obtain⟨m,e⟩:=HMW.out;exact⟨_,by rw[hX,e,World.drewN_drewN]⟩
 clear hX kX HKW HH HH' HMW
 go_wp2_with fail
 go_quiet (fail)
 obtain⟨Y,hY⟩:∃Y,Y=X.drewN nq:=⟨_,rfl⟩
 have kY:Below X.heap.size X Y:=by rw[hY];exact az (Below.refl _ _) _
 have lX:=ah a0
 have lX':=ah b0
 replace a2:=(kY.cell (p:=⟨g,o+2,none⟩) lX).trans a2
 replace a3:=(kY.cell (p:=⟨g,o+3,none⟩) lX).trans a3
 replace a4:=(kY.cell (p:=⟨g,o+4,none⟩) lX).trans a4
 replace a5:=(kY.cell (p:=⟨g,o+5,none⟩) lX).trans a5
 replace b2:=(kY.cell (p:=⟨g',o'+2,none⟩) lX').trans b2
 replace b3:=(kY.cell (p:=⟨g',o'+3,none⟩) lX').trans b3
 replace b4:=(kY.cell (p:=⟨g',o'+4,none⟩) lX').trans b4
 replace b5:=(kY.cell (p:=⟨g',o'+5,none⟩) lX').trans b5
 have HKY:=aa (HKX.out.trans (kY.mono HKX.out.size))
 have HMY:Hid (∃m,Y=w.drewN m):=by obtain⟨m,e⟩:=HMX.out;exact⟨_,by rw[hY,e,World.drewN_drewN]⟩
 rw[←hY]
 clear HMX hY kY a0 a1 b0 b1 lX lX' HKX
 go_wp2_with fail
 go_quiet (fail)
 go_wp2_with fail
 go_ret
 obtain⟨m,e⟩:=HMY.out
 exact⟨rfl,_,by rw[e,World.drewN_drewN]⟩
end
section
open Go.RowKit Go.Shelf
def iC:aj:=[118,97,114,32,103,59,118,97,114,32,104,59,109,117,116,101,120,32,109,59,109,117,116,101,120,32,110,59]
def aO(n:Nat):aj:=pW [120,61,49,59] n
structure iJ(w W:World)(T:ByteArray)(lv:Value)(xs:List dd):Prop where
 k7:W.heap[w.heap.size+1]?=some (.cells #[.string T,lv] 26 (0,0))
 k4:W.heap[w.heap.size]?=some (.cells #[.string ⟨#[]⟩,.slice none 0 0] 26 (0,0))
 own:W.ownsRow w.heap.size 36 8 lv xs.length (fV xs)
 g:∀x∈xs,eo x W
 kp:Below w.heap.size w W
theorem iu(W:World)(b j:Nat)(v:Value):W.grownBy (W.setCell ⟨b,j,none⟩ v) (some b):=by
 have k:ae (ao b) W (W.setCell ⟨b,j,none⟩ v):=(ae.refl _ W).set1 _ _
 exact⟨k.os,k.tape,k.output,k.size,fun i hi hne=>k.block i hi (fun e=>hne (by rw[show i=b from e]))⟩
theorem eo.below{x:dd}{A B:World}(h:eo x A)(k:Below A.heap.size A B):eo x B:=⟨ay h.1 k,ay h.2 k⟩
theorem iJ.below{w W W':World}{T:ByteArray}{lv:Value}{xs:List dd}(h:iJ w W T lv xs)(k:Below W.heap.size W W'):iJ w W' T lv xs:=
 ⟨(k.block _ (Array.getElem?_eq_some_iff.1 h.k7).1).trans h.k7,(k.block _ (Array.getElem?_eq_some_iff.1 h.k4).1).trans h.k4,ay h.own k,fun x hx=>(h.g x hx).below k,h.kp.trans (k.mono h.kp.size)⟩
theorem iJ.start(w:World)(T:ByteArray):iJ w ((w.alloc (.cells #[.string ⟨#[]⟩,.slice none 0 0] 26)).alloc (.cells #[.string T,.slice none 0 0] 26)) T (.slice none 0 0) []:=by
 have h:=heap_alloc_new (w.alloc (.cells #[.string ⟨#[]⟩,.slice none 0 0] 26)) (.cells #[.string T,.slice none 0 0] 26)
 rw[World.size_alloc]at h
 exact⟨h,(Below.heap_alloc _ _ _ (by simp)).trans (heap_alloc_new _ _),World.ownsRow_nil _ _ _ _,fun x hx=>by simp at hx,((Below.refl _ w).alloc (Nat.le_refl _) _).alloc (by simp) _⟩
theorem iT{A B:World}{row:Option Nat}{t:TypeId}(hg:A.grownBy B row)(hr:∀r,row=some r→∃cur fr,A.heap[r]?=some (Obj.cells cur t fr)){k:Nat}{cur:Array Value}{s:TypeId}{fr:Nat×Nat}(h:A.heap[k]?=some (Obj.cells cur s fr))(hne:s≠t):B.heap[k]?=some (Obj.cells cur s fr):=by
 refine(hg.block k (Array.getElem?_eq_some_iff.1 h).1 (fun e=>?_)).trans h
 obtain⟨c,f,e'⟩:=hr k e.symm
 rw[h]at e'
 cases e'
 exact hne rfl
theorem eH{A B:World}{row:Option Nat}{t:TypeId}(hg:A.grownBy B row)(hr:∀r,row=some r→∃cur fr,A.heap[r]?=some (Obj.cells cur t fr)){base e size n:Nat}{v:Value}{xs:List Value}(h:A.ownsRow base e size v n xs)(hne:e≠t):B.ownsRow base e size v n xs:=by
 obtain⟨hl,hh⟩:=h
 refine⟨hl,?_⟩
 rcases hh with hh|⟨g,cap,cur,e1,hB,hgg,r⟩
 ·exact .inl hh
 ·exact .inr ⟨g,cap,cur,e1,hB,iT hg hr hgg hne,r⟩
theorem ua{A:World}{base e size n:Nat}{v:Value}{xs:List Value}(h:A.ownsRow base e size v n xs):∀r,v.ownBlock=some r→base≤r∧∃cur fr,A.heap[r]?=some (Obj.cells cur e fr):=fun r q=>by
 rcases h.2 with⟨rfl,_⟩|⟨g,cap,cur,rfl,hB,hg,_⟩
 ·cases q
 ·cases q;exact⟨hB,_,_,hg⟩
theorem iJ.app{w W W2 w4:World}{T:ByteArray}{lv v4:Value}{xs:List dd}{z:dd}(h:iJ w W T lv xs)(k:Below W.heap.size W W2)(hz:eo z W2)(ho:w4.ownsRow w.heap.size 36 8 v4 (xs.length+1) (fV xs++(fE z.1 z.2.1 z.2.2).toList))(hg:W2.grownBy w4 lv.ownBlock):
  an w4 (w.heap.size+1) #[.string T,lv]∧an w4 w.heap.size #[.string ⟨#[]⟩,.slice none 0 0]∧iJ w (w4.setCell ⟨w.heap.size+1,1,none⟩ v4) T v4 (xs++[z]):=by
 have h2:=h.below k
 have hr:=ua h2.own
 have hr':∀r,lv.ownBlock=some r→∃cur fr,W2.heap[r]?=some (Obj.cells cur 36 fr):=fun r e=>(hr r e).2
 have s7:=iT hg hr' h2.k7 (by decide)
 have s4:=iT hg hr' h2.k4 (by decide)
 have g1:=iu w4 (w.heap.size+1) 1 v4
 have r1:∀r,some (w.heap.size+1)=some r→∃cur fr,w4.heap[r]?=some (Obj.cells cur 26 fr):=fun r e=>by cases e;exact⟨_,_,s7⟩
 refine⟨af s7,af s4,⟨heap_setCell s7 1 v4,(g1.block w.heap.size (Array.getElem?_eq_some_iff.1 s4).1 (fun e=>by simp at e)).trans s4,?_,fun x hx=>?_,?_⟩⟩
 ·rw[me,List.length_append]
  exact eH g1 r1 ho (by decide)
 ·have q:eo x W2:=by
   rcases List.mem_append.1 hx with hx|hx
   ·exact h2.g x hx
   ·simp at hx;subst hx;exact hz
  exact⟨eH g1 r1 (eH hg hr' q.1 (by decide)) (by decide),eH g1 r1 (eH hg hr' q.2 (by decide)) (by decide)⟩
 ·have q1:=h2.kp.grown hg h2.kp.size (fun r e=>(hr r e).1)
  exact q1.grown g1 q1.size (fun r e=>by cases e;omega)
theorem iJ.fin{w W:World}{T:ByteArray}{lv:Value}{xs:List dd}(h:iJ w W T lv xs):((W.setCell ⟨w.heap.size,0,none⟩ (.string T)).setCell ⟨w.heap.size,1,none⟩ lv).heap[w.heap.size]?=some (.cells #[.string T,lv] 26 (0,0))∧dS w ((W.setCell ⟨w.heap.size,0,none⟩ (.string T)).setCell ⟨w.heap.size,1,none⟩ lv) lv xs:=by
 have g1:=iu W w.heap.size 0 (.string T)
 have s1:=heap_setCell h.k4 0 (.string T)
 have g2:=iu (W.setCell ⟨w.heap.size,0,none⟩ (.string T)) w.heap.size 1 lv
 have r1:∀r,some w.heap.size=some r→∃cur fr,W.heap[r]?=some (Obj.cells cur 26 fr):=fun r e=>by cases e;exact⟨_,_,h.k4⟩
 have r2:∀r,some w.heap.size=some r→∃cur fr,(W.setCell ⟨w.heap.size,0,none⟩ (.string T)).heap[r]?=some (Obj.cells cur 26 fr):=fun r e=>by cases e;exact⟨_,_,s1⟩
 refine⟨heap_setCell s1 1 lv,eH g2 r2 (eH g1 r1 h.own (by decide)) (by decide),fun x hx=>?_,?_⟩
 ·have q:=h.g x hx
  exact⟨eH g2 r2 (eH g1 r1 q.1 (by decide)) (by decide),eH g2 r2 (eH g1 r1 q.2 (by decide)) (by decide)⟩
 ·have q1:=h.kp.grown g1 h.kp.size (fun r e=>by cases e;exact Nat.le_refl _)
  exact q1.grown g2 q1.size (fun r e=>by cases e;exact Nat.le_refl _)
theorem eo.nil(r:jp)(hr:r.la=[]∧r.lb=[])(W:World):eo (r,.slice none 0 0,.slice none 0 0) W:=⟨by rw[hr.1];exact World.ownsRow_nil _ _ _ _,by rw[hr.2];exact World.ownsRow_nil _ _ _ _⟩
theorem cz:(Tryz.prog.info? 26).map (·.size)=some 2:=by kernel_rfl
structure xh(w W:World)(T:ByteArray)(R:Nat)(r:jp)(la lb:Value):Prop where
 kn:iJ w W T (.slice none 0 0) []
 box:W.heap[R]?=some (.cells (fE r la lb) 36 (0,0))
 g:eo (r,la,lb) W
 hR:w.heap.size+1< R
theorem xh.set{w W w5:World}{T:ByteArray}{R:Nat}{r:jp}{la lb v:Value}(h:xh w W T R r la lb)(k:Below W.heap.size W w5)(j:Nat):iJ w (w5.setCell ⟨R,j,none⟩ v) T (.slice none 0 0) []∧(w5.setCell ⟨R,j,none⟩ v).heap[R]?=some (.cells ((fE r la lb).setIfInBounds j v) 36 (0,0))∧(∀(B n:Nat) (u:Value) (xs:List Value),w5.ownsRow B 3 1 u n xs→(w5.setCell ⟨R,j,none⟩ v).ownsRow 0 3 1 u n xs):=by
 have h5:=h.kn.below k
 have hR:=h.hR
 have b5:=(k.block _ (Array.getElem?_eq_some_iff.1 h.box).1).trans h.box
 have g1:=iu w5 R j v
 have r1:∀q,some R=some q→∃cur fr,w5.heap[q]?=some (Obj.cells cur 36 fr):=fun q e=>by cases e;exact⟨_,_,b5⟩
 exact⟨⟨iT g1 r1 h5.k7 (by decide),iT g1 r1 h5.k4 (by decide),World.ownsRow_nil _ _ _ _,fun x hx=>by simp at hx,h5.kp.grown g1 h5.kp.size (fun q e=>by cases e;omega)⟩,heap_setCell b5 j v,fun B n u xs ho=>cQ (eH g1 r1 ho (by decide)) 0 (Nat.zero_le _)⟩
theorem xh.lockA{w W w5:World}{T:ByteArray}{R x:Nat}{r:jp}{lb v:Value}(h:xh w W T R r (.slice none 0 0) lb)(hr:r.la=[])(k:Below W.heap.size W w5)(ho:w5.ownsRow w.heap.size 3 1 v 1 [.int .i64 x]):xh w (w5.setCell ⟨R,6,none⟩ v) T R {r with la:=[x]} v lb:=by
 obtain⟨s1,s2,s3⟩:=h.set (v:=v) k 6
 exact⟨s1,s2,⟨s3 _ _ _ _ ho,s3 _ _ _ _ (ay h.g.2 k)⟩,h.hR⟩
theorem xh.lockB{w W w5:World}{T:ByteArray}{R x:Nat}{r:jp}{la v:Value}(h:xh w W T R r la (.slice none 0 0))(hr:r.lb=[])(k:Below W.heap.size W w5)(ho:w5.ownsRow w.heap.size 3 1 v 1 [.int .i64 x]):xh w (w5.setCell ⟨R,7,none⟩ v) T R {r with lb:=[x]} la v:=by
 obtain⟨s1,s2,s3⟩:=h.set (v:=v) k 7
 exact⟨s1,s2,⟨s3 _ _ _ _ (ay h.g.1 k),s3 _ _ _ _ ho⟩,h.hR⟩
theorem gL:(Tryz.prog.info? 3).map (fun i=>(i.zero,i.size,i.bytes))=some (some (.int .i64 0),1,8):=by kernel_rfl
end
section
open Go.RowKit Go.Shelf
def aX:Nat→Nat→aj
 |0,n=>iC++[102,117,110,99,32,119,40,41,123,103,61,49,59,125,102,117,110,99,32,109,97,105,110,40,41,123]++aO n++[103,111,32,119,40,41,59,103,61,50,59,125]
 |1,n=>iC++[102,117,110,99,32,119,40,41,123,103,61,49,59,125,102,117,110,99,32,109,97,105,110,40,41,123]++aO n++[103,111,32,119,40,41,59,103,111,32,119,40,41,59,125]
 |2,n=>iC++[102,117,110,99,32,119,40,41,123,103,61,49,59,125,102,117,110,99,32,109,97,105,110,40,41,123]++aO n++[119,104,105,108,101,32,49,123,103,111,32,119,40,41,59,125,125]
 |3,n=>iC++[102,117,110,99,32,119,40,41,123,108,111,99,107,32,109,59,103,61,49,59,117,110,108,111,99,107,32,109,59,125,102,117,110,99,32,109,97,105,110,40,41,123]++aO n++[103,111,32,119,40,41,59,108,111,99,107,32,110,59,120,61,103,59,117,110,108,111,99,107,32,110,59,125]
 |4,n=>iC++[102,117,110,99,32,119,40,41,123,108,111,99,107,32,109,59,103,61,49,59,117,110,108,111,99,107,32,109,59,125,102,117,110,99,32,109,97,105,110,40,41,123]++aO n++[103,111,32,119,40,41,59,108,111,99,107,32,109,59,117,110,108,111,99,107,32,109,59,120,61,103,59,125]
 |5,n=>iC++[102,117,110,99,32,119,40,41,123,103,61,49,59,125,102,117,110,99,32,102,40,41,123,104,61,49,59,125,102,117,110,99,32,109,97,105,110,40,41,123]++aO n++[116,61,103,111,32,119,40,41,59,117,61,103,111,32,102,40,41,59,106,111,105,110,32,117,59,120,61,103,59,120,61,104,59,125]
 |6,n=>iC++[102,117,110,99,32,119,40,112,41,123,112,46,114,61,49,59,125,102,117,110,99,32,109,97,105,110,40,41,123]++aO n++[111,61,110,101,119,59,103,111,32,119,40,111,41,59,120,61,111,46,114,59,125]
 |7,n=>iC++[102,117,110,99,32,119,40,41,123,108,111,99,107,32,109,59,111,61,103,59,117,110,108,111,99,107,32,109,59,111,46,108,61,50,59,125,102,117,110,99,32,109,97,105,110,40,41,123]++aO n++[111,61,110,101,119,59,108,111,99,107,32,109,59,103,61,111,59,117,110,108,111,99,107,32,109,59,103,111,32,119,40,41,59,120,61,111,46,108,59,125]
 |8,n=>iC++[102,117,110,99,32,119,40,112,41,123,105,102,32,112,123,108,111,99,107,32,109,59,125,103,61,49,59,125,102,117,110,99,32,109,97,105,110,40,41,123]++aO n++[103,111,32,119,40,49,41,59,108,111,99,107,32,109,59,103,61,50,59,117,110,108,111,99,107,32,109,59,125]
 |9,n=>iC++[102,117,110,99,32,119,40,112,41,123,121,61,112,46,114,59,121,46,108,61,49,59,125,102,117,110,99,32,109,97,105,110,40,41,123]++aO n++[111,61,110,101,119,59,120,61,110,101,119,59,111,46,114,61,120,59,103,111,32,119,40,111,41,59,120,46,108,61,50,59,125]
 |10,n=>iC++[102,117,110,99,32,119,40,41,123,103,61,49,59,125,102,117,110,99,32,109,97,105,110,40,41,123]++aO n++[116,61,103,111,32,119,40,41,59,121,61,104,59,105,102,32,121,123,116,61,103,111,32,119,40,41,59,125,106,111,105,110,32,116,59,120,61,103,59,125]
 |_,n=>iC++[102,117,110,99,32,102,40,41,123,103,61,49,59,125,102,117,110,99,32,119,40,41,123,103,111,32,102,40,41,59,125,102,117,110,99,32,109,97,105,110,40,41,123]++aO n++[116,61,103,111,32,119,40,41,59,106,111,105,110,32,116,59,103,61,50,59,125]
def co:Nat→Nat→List jp
 |0,n=>[⟨0,n+2,-1,0,1,0,[],[]⟩]
 |1,n=>[⟨0,0,-1,0,1,2,[],[]⟩]
 |2,n=>[⟨0,0,-1,0,1,1,[],[]⟩]
 |3,n=>[⟨1,n+5,-1,0,1,0,[0],[1]⟩]
 |4,n=>[⟨1,n+6,-1,0,1,0,[0],[]⟩]
 |5,n=>[⟨0,n+5,-1,0,1,0,[],[]⟩]
 |6,n=>[⟨0,n+3,0,1,1,0,[],[]⟩]
 |7,n=>[⟨3,n+9,0,0,1,0,[],[]⟩]
 |8,n=>[⟨2,n+5,-1,0,1,0,[],[0]⟩]
 |9,n=>[⟨1,n+6,1,0,1,0,[],[]⟩]
 |10,n=>[⟨0,0,-1,0,1,2,[],[]⟩,⟨0,n+6,-1,0,1,0,[],[]⟩]
 |_,n=>[⟨0,n+4,-1,0,1,0,[],[]⟩]
end
end Go.Proofs.YtmdaflepdaiabaaGreatDoor
