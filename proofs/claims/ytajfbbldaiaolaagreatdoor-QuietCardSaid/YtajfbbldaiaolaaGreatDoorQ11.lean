import Derived.Test.YtajfbbldaiaolaaGreatDoorQ10
set_option linter.unusedSimpArgs false
set_option linter.unusedVariables false
set_option maxRecDepth 100000
set_option maxHeartbeats 4000000
namespace Go.Proofs.YtajfbbldaiaolaaGreatDoor
open Go.RowKit Go.Maps Go.Shelf
variable {B N a b c e i:Nat}{l:List Nat}{w:World}
section
def KH(y:Pg)(m:Ms)(i:Nat)(t:List Fm)(s:Fs)(e:Tu):Option ku:=match s.p.kind with
 |1=>IY m t s e
 |2=>IX m t s e
 |3=>IW m t s e
 |4=>IV m t s e
 |5=>IU m t s e
 |6=>IT m t s e
 |7=>IS y m t s e
 |8=>IQ m t s e
 |9=>IP m i t s e
 |10=>Db m i t s e
 |11=>Da y m t s e
 |13=>yY m t s e
 |14=>yY m t s e
 |_=>none
def KI(y:Pg)(m:Ms)(i:Nat)(t:List Fm):Option ku:=
 if t.length=1 then some ([],none,m,{th:=i,kd:=12,pl:=-1})else match(cJ t.dropLast).pl with
 |.ofNat j=>match y.ss[j]? with
  |some s=>if s.p.ln< 6 then some (aZ t.dropLast {oY (cJ t.dropLast) s.p (0,0)with pl:=s.nx},none,m,{th:=i,kd:=12,pl:=-1})else none
  |none=>none
 |_=>none
def KU(y:Pg)(m:Ms)(i:Nat)(t:List Fm):Option ku:=match(cJ t).pl with
 |.ofNat j=>match y.ss[j]? with
  |some s=>bif ki s then KH y m i t s {th:=i,kd:=s.p.kind,pl:=j}else none
  |none=>none
 |.negSucc 0=>KI y m i t
 |_=>none
def ku.ms(x:ku)(m:Ms)(i:Nat):Ms:={x.2.2.1 with thr:=m.thr.set i x.1++x.2.1.toList}
def ku.ev(x:ku):Tu:={x.2.2.2 with en:=x.1.isEmpty}
section
variable {w:World} {y:Pg} {L:Ly} {K i:Nat} {tv:Value} {bts:List Nat} {fvs:List Value} {m:Ms} {t:List Fm} {x:ku}
theorem Dy.thr{v:World}{K' bt:Nat}{y q:Value}{F E D:Int}{J:Tu}{G:List Fm}{nw:Option (List Fm)}{H:Ms}(h:Dy w v L K' a bt tv y bts q F E D J G nw H)(l:List (List Fm)):Dy w v L K' a bt tv y bts q F E D J G nw {H with thr:=l}:=by
 obtain⟨C,B,S,R,Q,P,O,N,M,A,K⟩:=h
 exact⟨C,B,S,R,Q,P,O,N,M,⟨A.mc,A.row,A.hd,A.hl⟩,K⟩
theorem LO(h:Mx w y L K tv bts fvs m)(o:K<=1000000)(f:i< 1000)(k:m.thr[i]?=some t)(H:t≠[])(A:KU y m i t=some x):
  Ca 77 #[aF L.bm,aB i] w fun q w'=>q=.returned (.agg (tH x.ev))/\∃Z T S,Mx w' y L (K+1) Z T S (x.ms m i)/\aC (mV L tv bts fvs) w w':=by
 unfold KU at A
 split at A
 ·rename_i j G
  split at A
  ·rename_i s W
   cases B:ki s with
   |false=>rw[B]at A;cases A
   |true=>
    rw[B]at A
    simp only[cond_true]at A
    refine MO h k H G W rfl (fun Y v bt bs u M Q X kb E C=>?_)
    have:AB Y L (K+1) v bt bs tv u bts s x:=by
     unfold KH at A
     split at A
     ·exact MZ E C B ‹_› A
     ·exact MY E C B ‹_› A
     ·exact MX E C B o ‹_› A
     ·exact MW E C B ‹_› A
     ·exact MV E C B o ‹_› A
     ·exact MU E C B ‹_› A
     ·exact MT E C B ‹_› A
     ·exact MS E C B ‹_› A
     ·exact MR E C B o rfl f ‹_› A
     ·exact Ma E C B rfl ‹_› A
     ·exact LZ E C B X (List.mem_of_getElem? M) ‹_› A
     ·exact KA E C B (.inl ‹_›) A
     ·exact KA E C B (.inr ‹_›) A
     ·cases A
    exact this.mono (fun q w2 O=>⟨O.1,O.2.thr _⟩)
  ·cases A
 ·rename_i G
  unfold KI at A
  split at A
  ·rename_i hl
   cases A
   refine Kl h k H G (by simp[ku.ms]) (fun Y v bt u M Q X kb V F C=>?_)
   refine(GD V F hl).mono ?_
   rintro q w2 ⟨rfl,N,r,O,R,p⟩
   have n:¬aK bt L.bm/\¬aK bt L.hb/\¬aK bt L.lb/\∀b,aT tv b->¬aK bt b:=by
    obtain⟨hf,a1,a2⟩:=C.rs.hd
    obtain⟨lf,z,b2⟩:=C.rs.hl
    refine⟨fun e=>?_,fun e=>?_,fun e=>?_,fun b D e=>?_⟩
    ·have e:L.bm=bt:=e;have:=F.hd;rw[<-e,C.rs.mc]at this;simp at this
    ·have e:L.hb=bt:=e;exact a1.nc (by rw[e];exact F.hd)
    ·have e:L.lb=bt:=e;exact z.nc (by rw[e];exact F.hd)
    ·have e:b=bt:=e;subst e;exact dE C.rs.row F.hd (by decide) D
   have J:=(C.rs.kept R n.1 n.2.1 n.2.2.1 n.2.2.2).mono (K':=K+1) (by omega)
   exact⟨rfl,N,tv,[],[],O,r,R.mono (fun b D=>.inr (.inl D)),fun b D=>.inl (p b D),fun b D=>.inl D,by rw[List.append_nil];exact⟨J.mc,J.row,J.hd,J.hl⟩,rfl,rfl⟩
  ·rename_i hl
   split at A
   ·rename_i j P
    split at A
    ·rename_i s W
     split at A
     ·rename_i a
      cases A
      refine Kl h k H G (by simp[ku.ms]) (fun Y v bt u M Q X kb V F C=>?_)
      obtain⟨g,c,gs,cs,-,l,-,-,c3,cc⟩:=C.pg.ex
      obtain⟨bs,s0,s1,s2,s3,hS⟩:=cc j s W
      have ap:=C.rs.ap V F.row
      obtain⟨hf,a1,a2⟩:=C.rs.hd
      obtain⟨lf,z,b2⟩:=C.rs.hl
      have n1:L.bm≠bt:=fun e=>by have:=F.hd;rw[<-e,C.rs.mc]at this;simp at this
      have n2:L.hb≠bt:=fun e=>a1.nc (by rw[e];exact F.hd)
      have n3:L.lb≠bt:=fun e=>z.nc (by rw[e];exact F.hd)
      have d:2<=t.length:=by have:=List.length_pos_iff.2 H;omega
      refine(GC V F d X ((aA C.rs.mc).cell 0) n1 (fun e=>(ap.fv _ e).1 rfl) C.pg.lt c3 l (List.getElem?_eq_some_iff.1 W).1 P s0 s1 s2 s3 hS a).mono ?_
      rintro q w2 ⟨rfl,N,r,O,R,p⟩
      have J:=(C.rs.kept R (fun e=>by rcases e with e|e;exact(ap.fv _ e).1 rfl;exact n1 e) (fun e=>by rcases e with e|e;exact(ap.fv _ e).2.1 rfl;exact n2 e) (fun e=>by rcases e with e|e;exact(ap.fv _ e).2.2.1 rfl;exact n3 e) (fun b D e=>by rcases e with e|e;exact(ap.tv _ D).2 e;subst e;exact dE C.rs.row F.hd (by decide) D)).mono (K':=K+1) (by omega)
      exact⟨rfl,N,tv,[],[],O,r,R.mono (fun b D=>by rcases D with D|D;exact .inl D;exact .inr (.inl D)),fun b D=>.inl (p b D),fun b D=>.inl D,by rw[List.append_nil];exact⟨J.mc,J.row,J.hd,J.hl⟩,rfl,rfl⟩
     ·cases A
    ·cases A
   ·cases A
 ·cases A
end
end
section
def xd(y:Pg)(m:Ms)(t:List Fm):Option Bool:=match t with
 |[]=>some false
 |_::_=>match(cJ t).pl with
  |.negSucc 0=>some true
  |.ofNat j=>match y.ss[j]? with
   |some s=>bif ki s then
     if s.p.kind=9 then some (nJ m.hldr s.p.nn).isNone
     else if s.p.kind=8 then match s.r with
      |a::_=>if Jj 2 (cD (cJ t) a)=true then(m.thr[(cD (cJ t) a).2.toNat]?).map List.isEmpty else none
      |[]=>none
     else some true
    else none
   |none=>none
  |_=>none
def Ea(y:Pg)(m:Ms)(i:Nat):Bool:=(xd y m (m.thr.getD i [])).getD false
def wz(y:Pg)(m:Ms):List Nat:=gE (Ea y m) m.thr.length
section
variable {w:World} {y:Pg} {L:Ly} {K:Nat} {tv:Value} {bts:List Nat} {fvs:List Value} {m:Ms}
theorem Ki{bt:Nat}{t:List Fm}{r:Bool}(h:Mx w y L K tv bts fvs m)(k:m.thr[i]?=some t)(n:bts[i]?=some bt)(A:xd y m t=some r):Ca 72 #[aF L.bm,aF bt] w (Rt w (.bool r)):=by
 obtain⟨u,fv,D,l,E⟩:=h.thr k
 rw[n]at D
 cases D
 unfold xd at A
 split at A
 ·cases A;exact LA E
 ·split at A
  ·cases A;exact Lz E (by simp) ‹_›
  ·rename_i f z j B
   split at A
   ·rename_i s W
    obtain⟨g,c,gs,cs,-,-,-,-,T,q⟩:=h.pg.ex
    obtain⟨bs,J,H,G,F,Q⟩:=q j s W
    have N:=(List.getElem?_eq_some_iff.1 W).1
    have V:=(aA h.rs.mc).cell 0
    cases C:ki s with
    |false=>rw[C]at A;cases A
    |true=>
     obtain⟨o1,d,o3,o4,b⟩:=fJ C
     rw[C]at A
     simp only[cond_true]at A
     split at A
     ·rename_i R
      cases A
      obtain⟨lf,v,Z⟩:=h.rs.hl
      have:=Lv E (by simp) V B T N J H G F Q R ((aA h.rs.mc).cell 4) v d
      rw[Z]at this
      simpa using this
     ·rename_i R
      split at A
      ·rename_i S
       split at A
       ·rename_i a r' Y
        split at A
        ·rename_i e
         obtain⟨o,X,hl⟩:=tC e
         rw[X]at A
         simp only[Int.toNat_natCast,Option.map_eq_some_iff]at A
         obtain⟨x,M,rfl⟩:=A
         obtain⟨Z,p,O,-,P⟩:=h.thr M
         exact Lw E (by simp) V B T N J H G F Q S ((aA h.rs.mc).cell 1) h.rs.row (by rw[Y];rfl) (b a (by rw[Y];simp)) X O P
        ·cases A
       ·cases A
      ·rename_i S
       cases A
       exact Lx E (by simp) V B T N J H G F Q S R
   ·cases A
  ·cases A
theorem Kj(h:Mx w y L K tv bts fvs m)(B:∀t∈m.thr,(xd y m t).isSome=true)(G:m.thr.length< 100):Ca 49 #[aF L.bm] w fun q w'=>∃E,q=.returned E/\w'.ownsRow w.heap.size 3 1 E (wz y m).length (BX (wz y m))/\Bw w w':=by
 have F:=h.ts.lt
 have:=Ig (r:=Ea y m) ((aA h.rs.mc).cell 1) h.rs.row (by omega) (fun i b W D k=>by
  have H:=(List.getElem?_eq_some_iff.1 D).1
  have A:m.thr[i]?=some (m.thr[i]'(by omega)):=List.getElem?_eq_getElem _
  obtain⟨r,C⟩:=Option.isSome_iff_exists.1 (B _ (List.mem_of_getElem? A))
  have e:Ea y m i=r:=by unfold Ea;rw[List.getD_eq_getElem?_getD,A];simp only[Option.getD_some];rw[C];rfl
  rw[e]
  exact Ki (h.below k) A D C)
 rw[<-F]at this
 exact this
end
end
section
structure nK(w:World)(y:Pg)(L:Ly)(K:Nat)(tv:Value)(bts:List Nat)(fvs:List Value)(F:iU)(m:Ms)(od:Od):Prop where
 mx:Mx w y L K tv bts fvs m
 od:ip w L.ob K F od
 ap:∀x b,F x=some b->b≠L.hb/\b≠L.lb/\L.B<=b
 ge:L.B<=L.ob
section
variable {w w':World} {y:Pg} {L:Ly} {K K':Nat} {tv:Value} {bts:List Nat} {fvs:List Value} {F:iU} {m:Ms} {od:Od}
theorem Mx.mono(h:Mx w y L K tv bts fvs m)(A:K<=K'):Mx w y L K' tv bts fvs m:=⟨h.pg,h.rs.mono A,h.ts,h.ne,h.ge⟩
theorem Mx.noT(h:Mx w y L K tv bts fvs m){A:Array Value}{ty:TypeId}{z:Nat×Nat}(C:w.heap[b]?=some (.cells A ty z))(H:ty≠193)(G:ty≠194)(F:ty≠201)(E:ty≠197):¬mV L tv bts fvs b:=fun J=>by
 obtain⟨S,O,-⟩:=h.rs.hd
 obtain⟨P,N,-⟩:=h.rs.hl
 have R:=h.ts.lf
 have Q:=h.ts.lt
 have T:∀i (D:i< bts.length),cN w L.B bts[i] (fvs[i]'(by omega)) (m.thr[i]'(by omega)):=fun i D=>h.ts.at_ i _ _ _ (List.getElem?_eq_getElem _) (List.getElem?_eq_getElem _) (List.getElem?_eq_getElem _)
 rcases J with e|e|e|e|e|⟨V,M,e⟩
 ·rw[e,h.rs.mc]at C;simp at C;exact H C.2.1.symm
 ·exact O.nc (by rw[<-e];exact C)
 ·exact N.nc (by rw[<-e];exact C)
 ·exact dE h.rs.row C G e
 ·obtain⟨i,D,e⟩:=List.getElem_of_mem e
  have:=(T i D).hd
  rw[e,C]at this
  simp at this
  exact F this.2.1
 ·obtain⟨i,D,rfl⟩:=List.getElem_of_mem M
  exact dE (T i (by omega)).row C E e
theorem nK.no(h:nK w y L K tv bts fvs F m od)(P:iM L.ob F b):L.B<=b/\¬mV L tv bts fvs b:=by
 rcases P with rfl|⟨x,G⟩
 ·obtain⟨st,a,b,c,d,-,-,-,-,-,D⟩:=h.od.hd
  exact⟨h.ge,h.mx.noT D (by decide) (by decide) (by decide) (by decide)⟩
 ·obtain⟨W,c,D⟩:=h.od.fd x b G
  have S:=h.mx.ts.lf
  have R:=h.mx.ts.lt
  have T:∀i (C:i< bts.length),cN w L.B bts[i] (fvs[i]'(by omega)) (m.thr[i]'(by omega)):=fun i C=>h.mx.ts.at_ i _ _ _ (List.getElem?_eq_getElem _) (List.getElem?_eq_getElem _) (List.getElem?_eq_getElem _)
  have no:∀{A ty z},w.heap[b]?=some (.cells A ty z)->False:=fun H=>by rw[D]at H;cases H
  obtain⟨N,M,J⟩:=h.ap x b G
  refine⟨J,fun O=>?_⟩
  rcases O with e|e|e|e|e|⟨V,Q,e⟩
  ·exact no (e▸h.mx.rs.mc)
  ·exact N e
  ·exact M e
  ·obtain⟨-,-,A,z,E⟩:=dN h.mx.rs.row e
   exact no E
  ·obtain⟨i,C,e⟩:=List.getElem_of_mem e
   exact no (e▸(T i C).hd)
  ·obtain⟨i,C,rfl⟩:=List.getElem_of_mem Q
   obtain⟨-,-,A,z,E⟩:=dN (T i (by omega)).row e
   exact no E
theorem ip.noT(h:ip w e K F od){A:Array Value}{ty:TypeId}{z:Nat×Nat}(B:w.heap[b]?=some (.cells A ty z))(D:ty≠248):¬iM e F b:=fun G=>by
 rcases G with rfl|⟨x,E⟩
 ·obtain⟨st,a,b,c,d,-,-,-,-,-,C⟩:=h.hd
  rw[C]at B;simp at B;exact D B.2.1.symm
 ·obtain⟨H,c,C⟩:=h.fd x b E
  rw[C]at B;cases B
theorem ip.seeLt(h:ip w a K F od)(B:iM a F b):b< w.heap.size:=by
 rcases B with rfl|⟨x,A⟩
 ·exact h.ltO
 ·exact h.lt A
theorem nK.below(h:nK w y L K tv bts fvs F m od)(k:Bw w w'):nK w' y L K tv bts fvs F m od:=⟨h.mx.below k,h.od.below k,h.ap,h.ge⟩
theorem Ci{t:List Fm}{x:ku}(h:nK w y L K tv bts fvs F m od)(hK:K<=400000)(u:∀t∈m.thr,(xd y m t).isSome=true)(hn:m.thr.length< 100)(hc:(wz y m)[c]?=some i)(hi:m.thr[i]?=some t)(v:t≠[])(ha:KU y m i t=some x)(hS:Dm od x.ev):
  Calls Tryz.prog 51 #[aF L.bm,aB c] w fun q w'=>q=.returned (.agg (tH x.ev))/\∃M H G p,nK w' y L (nX K x.ev) M H G p (x.ms m i) (lT od x.ev)/\aC (fun b=>mV L tv bts fvs b\/iM L.ob F b) w w':=by
 obtain⟨ev,k⟩:∃ev,x.ev=ev:=⟨_,rfl⟩
 rw[k]at hS⊢
 have al:=aG k
 clear k
 have ah:=(List.getElem?_eq_some_iff.1 hc).1
 have aw:=(List.getElem?_eq_some_iff.1 hi).1
 have b2:=(h.mx.blk (.inl rfl)).2
 have ar:(wz y m).length< 100:=by
  unfold wz gE
  exact Nat.lt_of_le_of_lt (Nat.le_trans (List.length_filter_le _ _) (by simp)) hn
 obtain⟨W,hW⟩:=bM (w.alloc (.cells #[aB 0,aB 0,aB 0,aB 0,aB 0,.nilIface,.bool false] 84))
 have kW:Bw w W:=by rw[hW];exact ba _ _
 have a7:W.heap[w.heap.size]?=some (.cells #[aB 0,aB 0,aB 0,aB 0,aB 0,.nilIface,.bool false] 84 (0,0)):=by rw[hW];exact heap_alloc_new _ _
 have b3:W.heap.size=w.heap.size+1:=by rw[hW];simp
 obtain⟨hR,HH,HW,ac,HZ,HS,HA,HC,HI⟩:=xA (Kj (h.below kW).mx u hn) h hW kW a7 hS ha hc hi
 have am:=aG v
 generalize hN:(wz y m).length=N at *
 clear h hW kW a7 hS ha hc hi v u
 go_in
 go_wp2_with fail
 rw[<-HW.out]
 refine hR.mono ?_
 rintro q V ⟨av,rfl,O,E⟩
 obtain⟨g,cap,rfl⟩:=aO O (by omega)
 have ag:Ce V g c (aB i):=cZ O (by simp[BX,HC.out])
 have kV:Bw w V:=ac.trans (E.mono ac.size)
 have o:=HH.below kV
 have a9:=aG (Kk (c:=c) (n:=N) ah (by omega) V)
 have Q:=LO o.mx (by omega) (by omega) HI am HA
 rw[al.out]at Q
 replace Q:=aG Q
 have b0:(0:Int)<=c:=by omega
 have az:(c:Int)< N:=by omega
 have ao:((N:Int)==0)=false:=by simp;omega
 have a8:=(E.block w.heap.size (by omega)).trans HZ
 obtain⟨an,J,ak⟩:=bY kV o a8
 have ay:=aD ag
 have ai:w.heap.size< V.heap.size:=by have:=E.size;omega
 clear O E kV o a8
 go_wp2_with fail
 refine a9.mono ?_
 rintro q X ⟨rfl,hX⟩
 subst X
 go_wp2_with fail
 refine Q.mono ?_
 rintro q B ⟨rfl,M,H,G,l,r⟩
 unfold tH vI
 obtain⟨Z,hZ⟩:=bM (B.alloc (.cells #[aB ev.th,aB ev.kd,aB ev.pl,aB ev.ob,aB ev.fd,.iface (vT ev.vl.fst) (aB ev.vl.snd),.bool ev.en] 84))
 have S:Bw B Z:=by rw[hZ];exact ba _ _
 have C:Z.heap[B.heap.size]?=some (.cells #[aB ev.th,aB ev.kd,aB ev.pl,aB ev.ob,aB ev.fd,.iface (vT ev.vl.fst) (aB ev.vl.snd),.bool ev.en] 84 (0,0)):=by rw[hZ];exact heap_alloc_new _ _
 have aa:nK B y L (K+1) M H G F (x.ms m i) od:=⟨l,(J.od.mono (by omega)).kept r (fun e=>(J.no (.inl rfl)).2 e) (fun a b e e'=>(J.no (.inr ⟨a,e⟩)).2 e'),J.ap,J.ge⟩
 have f:aC (fun b=>mV L tv bts fvs b\/iM L.ob F b) w B:=(aC.of_below an).trans (r.mono (fun b E=>.inl E))
 have aq:=r.size
 have ae:¬mV L tv bts fvs w.heap.size:=fun e=>by have:=(HH.mx.blk e).2;omega
 have j:B.heap[w.heap.size]?=_:=(r.block _ ai ae).trans ak
 have D:=aa.below (S.trans ((Below.refl _ Z).drew.mono S.size))
 have P:ip Z.drew L.ob K F od:=((J.od.kept r (fun e=>(J.no (.inl rfl)).2 e) (fun a b e e'=>(J.no (.inr ⟨a,e⟩)).2 e')).below S).below (Below.refl _ Z).drew
 have d:=aG (LJ P (by omega) HS)
 have g5:Ce Z L.bm 5 (aF L.ob):=bc S ((aA l.rs.mc).cell 5)
 have e0:Ce Z B.heap.size 0 (aB ev.th):=(aA C).cell 0
 have e1:Ce Z B.heap.size 1 (aB ev.kd):=(aA C).cell 1
 have e2:Ce Z B.heap.size 2 (aB ev.pl):=(aA C).cell 2
 have e3:Ce Z B.heap.size 3 (aB ev.ob):=(aA C).cell 3
 have e4:Ce Z B.heap.size 4 (aB ev.fd):=(aA C).cell 4
 have e5:Ce Z B.heap.size 5 (.iface (vT ev.vl.fst) (aB ev.vl.snd)):=(aA C).cell 5
 have e6:Ce Z B.heap.size 6 (.bool ev.en):=(aA C).cell 6
 have ad:Hid (∀A,nC Z.drew A L.ob K F od ev->A.heap[B.heap.size]?=some (.cells #[aB ev.th,aB ev.kd,aB ev.pl,aB ev.ob,aB ev.fd,.iface (vT ev.vl.fst) (aB ev.vl.snd),.bool ev.en] 84 (0,0))/\A.heap[w.heap.size]?=some (.cells #[aB 0,aB 0,aB 0,aB 0,aB 0,.nilIface,.bool false] 84 (0,0))/\∃p,nK A y L (nX K ev) M H G p (x.ms m i) (lT od ev)/\aC (fun b=>mV L tv bts fvs b\/iM L.ob F b) w A):=fun A ⟨p,p1,p2,p3⟩=>by
  have kd:Bw B Z.drew:=S.trans ((Below.refl _ Z).drew.mono S.size)
  have q1:Z.drew.heap[B.heap.size]?=_:=C
  have q2:Z.drew.heap[w.heap.size]?=_:=(kd.block _ (by omega)).trans j
  have z:K+1<=nX K ev:=by unfold nX;split<;>omega
  have ax:=D.mx.ge
  obtain⟨hf,a1,-⟩:=D.mx.rs.hd
  obtain⟨lf,b1,-⟩:=D.mx.rs.hl
  have l1:=a1.lt
  have l2:=b1.lt
  refine⟨(p2.block _ (aA q1).lt (P.noT q1 (by decide))).trans q1,(p2.block _ (aA q2).lt (P.noT q2 (by decide))).trans q2,p,⟨(D.mx.mono z).kept p2 (fun b E=>D.no E),p1,fun a b e=>?_,D.ge⟩,(f.trans (aC.of_below kd)).trans (p2.mono (fun b E=>.inr E))⟩
  rcases p3 a b e with e|e
  ·exact D.ap a b e
  ·omega
 unfold Jk vI at d
 obtain⟨aj,b6,b5,b8,b7,b9,b4⟩:=In hZ D P f S C j
 clear hZ D P f S C j aa l r a9 Q
 go_wp2_with fail
 rw[<-aj.out]
 go_region_with (go_at_call 79;refine d.mono ?_;rintro q A ⟨rfl,hP⟩;have HP:=aG hP;clear hP)
 all_goals
  obtain⟨Y,R,p,T,ab⟩:=ad A HP
  have a0:Ce A B.heap.size 0 (aB ev.th):=(aA Y).cell 0
  have a1:Ce A B.heap.size 1 (aB ev.kd):=(aA Y).cell 1
  have a2:Ce A B.heap.size 2 (aB ev.pl):=(aA Y).cell 2
  have a3:Ce A B.heap.size 3 (aB ev.ob):=(aA Y).cell 3
  have a4:Ce A B.heap.size 4 (aB ev.fd):=(aA Y).cell 4
  have a5:Ce A B.heap.size 5 (.iface (vT ev.vl.fst) (aB ev.vl.snd)):=(aA Y).cell 5
  have a6:Ce A B.heap.size 6 (.bool ev.en):=(aA Y).cell 6
  have d0:Ce A w.heap.size 0 (aB 0):=(aA R).cell 0
  have d1:Ce A w.heap.size 1 (aB 0):=(aA R).cell 1
  have d2:Ce A w.heap.size 2 (aB 0):=(aA R).cell 2
  have d3:Ce A w.heap.size 3 (aB 0):=(aA R).cell 3
  have d4:Ce A w.heap.size 4 (aB 0):=(aA R).cell 4
  have d5:Ce A w.heap.size 5 .nilIface:=(aA R).cell 5
  have d6:Ce A w.heap.size 6 (.bool false):=(aA R).cell 6
  have dz:∀x,A.frozen? (Ad w.heap.size x)=false:=(aA R).fz
  have au:¬B.heap.size=w.heap.size:=by omega
  obtain⟨H3,HM⟩:=aN R (And.intro T ab)
  clear Y R T ab e0 e1 e2 e3 e4 e5 e6 g5
  go_wp2_with fail
  obtain⟨X,hX⟩:=bM (((((((A.setCell (Ad w.heap.size 0) (aB ev.th)).setCell (Ad w.heap.size 1) (aB ev.kd)).setCell (Ad w.heap.size 2) (aB ev.pl)).setCell (Ad w.heap.size 3) (aB ev.ob)).setCell (Ad w.heap.size 4) (aB ev.fd)).setCell (Ad w.heap.size 5) (.iface (vT ev.vl.fst) (aB ev.vl.snd))).setCell (Ad w.heap.size 6) (.bool ev.en))
  have hN:X.heap[w.heap.size]?=some (.cells (tH ev) 84 (0,0)):=by
   have hN:=heap_setCell (heap_setCell (heap_setCell (heap_setCell (heap_setCell (heap_setCell (heap_setCell H3 0 (aB ev.th)) 1 (aB ev.kd)) 2 (aB ev.pl)) 3 (aB ev.ob)) 4 (aB ev.fd)) 5 (.iface (vT ev.vl.fst) (aB ev.vl.snd))) 6 (.bool ev.en)
   simp only[fT,fR,fQ]at hN
   rw[hX]
   exact hN
  have kX:aC (aK w.heap.size) A X:=by
   rw[hX]
   exact((((((((aC.refl _ _).set1 0 _).set1 1 _).set1 2 _).set1 3 _).set1 4 _).set1 5 _).set1 6 _)
  rw[<-hX]
  clear hX
  refine bodyPost_ret (results_cell_row rfl _ _ w.heap.size 84 (tH ev) (0,0) _ rfl hN Tryz.underlying84 rfl iT) rfl ⟨rfl,M,H,G,p,?_⟩
  obtain⟨s,hk⟩:=HM
  have e1:=s.mx.noT H3 (by decide) (by decide) (by decide) (by decide)
  have e2:=s.od.noT H3 (by decide)
  have af:=HH.mx.ge.2.2.2
  exact⟨⟨s.mx.kept kX (fun b E=>by have E:b=w.heap.size:=E;subst E;exact⟨af,e1⟩),s.od.kept kX (fun e=>e2 (.inl (show L.ob=w.heap.size from e).symm)) (fun a b e e'=>e2 (.inr ⟨a,(show b=w.heap.size from e')▸e⟩)),s.ap,s.ge⟩,hk.trans' kX (fun b E=>.inr (by have E:b=w.heap.size:=E;omega))⟩
end
end
theorem qx(g n c:Nat)(w:World):(binOp BinOp.eql 199 (.slice (some (Ad g 0)) n c) (.slice none 0 0)).run Tryz.prog w=.ok (.bool false) w:=by kernel_rfl
theorem vM(w:World):(binOp BinOp.eql 199 (.slice none 0 0) (.slice none 0 0)).run Tryz.prog w=.ok (.bool true) w:=by kernel_rfl
theorem Gx(v:Vl):(vI v).oneCell'=true:=rfl
theorem Fh{t:List Fm}:∀u∈eX t,u.oneCell'=true:=fun u A=>by
 unfold eX at A
 obtain⟨f,-,A⟩:=List.mem_flatMap.1 A
 unfold qM at A
 rcases List.mem_cons.1 A with rfl|A
 ·rfl
 ·obtain⟨v,-,rfl⟩:=List.mem_map.1 A
  exact Gx v
theorem Fb{bt:Nat}{y:Value}{t:List Fm}(h:cN w B bt y t):
  Calls Tryz.prog 73 #[y] w fun r w'=>∃v,r=.returned v/\w'.ownsRow w.heap.size 197 7 v t.length (eX t)/\Bw w w':=by
 obtain⟨P,N,G,F,E⟩:=pZ oG
 have D:=h.row
 have b:=h.len
 by_cases M:t.length=0
 ·have Q:t=[]:=List.length_eq_zero_iff.1 M
  subst Q
  rcases D.2 with⟨rfl,-⟩|⟨g,cap,T,rfl,f,hg,S⟩
  ·have L:=vM
   clear h D
   go_in
   go_wp2_with fail
   go_ret
   exact⟨_,rfl,⟨rfl,.inl ⟨rfl,rfl⟩⟩,Below.refl _ _⟩
  ·have L:=qx
   have K:∀ty W,(Builtin.append_ #[199,199] ty #[.slice (some (Ad w.heap.size 0)) 0 0,.slice (some (Ad g 0)) 0 cap]).run Tryz.prog W=.ok (.slice (some (Ad w.heap.size 0)) 0 0) W:=fun ty W=>by
    simp[Builtin.append_,run_underlying Tryz.underlying199,sizeOf,typeInfo,N,Builtin.lenOf,Builtin.firstCells,storeCells,loadCells,loadCellsFrom,Result.andThen]
   clear h D S hg
   go_in
   go_wp2_with fail
   go_ret
   exact⟨_,rfl,⟨rfl,.inr ⟨_,0,_,rfl,Nat.le_refl _,heap_alloc_new _ _,Nat.le_refl _,by decide,rfl,rfl⟩⟩,ba _ _⟩
 ·obtain⟨g,c,rfl⟩:=aO D M
  have H:=(D.lt g rfl).2
  have X:Hid (∀j u,(eX t)[j]?=some u->(w.alloc (.cells #[] 197)).cell? (((Ad g 0):Addr).add j)=some u):=fun j u R=>by
   rw[World.cell?_alloc_lt _ _ _ (by unfold Addr.add;split<;>exact H)]
   exact D.cells (g:=g) rfl j u R
  have Y:Hid ((eX t).length=t.length*7):=D.1
  have a:=aG (Fh (t:=t))
  have L:=qx
  generalize d:t.length=n at *
  clear h D
  go_in
  go_wp2_with (at_builtin;refine bE rfl _ _ 199 rfl w.heap.size 197 P (.agg #[aB 0,.nilIface,.nilIface,.nilIface,.nilIface,.nilIface,.nilIface]) 7 104 Tryz.underlying199 N G F E rfl (by decide) _ _ _ rfl (World.ownsRow_made w #[] 0 (Nat.le_refl _) (by decide) rfl) (Ad g 0) n c (eX t) rfl Y X a (by omega) (by unfold maxLen;omega) (by omega) (by simp) ?_;intro O J C A _)
  have V:Hid (J.ownsRow w.heap.size 197 7 O n (eX t)):=by
   have:=C
   rw[Nat.zero_add,List.nil_append]at this
   exact this
  have Z:Hid (Bw w J):=(ba w _).grown A (by simp) (fun k e=>by cases e;exact Nat.le_refl _)
  clear C A
  go_wp2_with fail
  go_ret
  exact⟨_,rfl,V,Z⟩
section
def Je(w wr:World)(L:Ly)(m:Ms)(k:Nat)(tvk:Value)(btk:List Nat)(fvk:List Value):Prop:=wr.heap[w.heap.size]?=some (.cells (uh L.bF tvk m.objs L.hb L.lb L.ob) 193 (0,0))/\wr.ownsRow (w.heap.size+1) 194 1 tvk k (du btk)/\btk.length=k/\jx wr L.B btk fvk (m.thr.take k)/\(∀b∈btk,w.heap.size< b)/\(∀fv∈fvk,∀b,aT fv b->w.heap.size< b)/\Below w.heap.size w wr
section
variable {w wr V w4:World} {L:Ly} {m:Ms} {k:Nat} {tvk v v4:Value} {t:List Fm} {btk:List Nat} {fvk:List Value}
theorem jx.lt_{A:List Value}{thr:List (List Fm)}(h:jx w B l A thr):(∀b∈l,b< w.heap.size)/\∀E∈A,∀b,aT E b->b< w.heap.size:=by
 have H:=h.lf
 have G:=h.lt
 have T:∀i (C:i< l.length),cN w B l[i] (A[i]'(by omega)) (thr[i]'(by omega)):=fun i C=>h.at_ i _ _ _ (List.getElem?_eq_getElem _) (List.getElem?_eq_getElem _) (List.getElem?_eq_getElem _)
 refine⟨fun b D=>?_,fun E F b D=>?_⟩
 ·obtain⟨i,C,rfl⟩:=List.getElem_of_mem D
  exact(aA (T i C).hd).lt
 ·obtain⟨i,C,rfl⟩:=List.getElem_of_mem F
  exact(dN (T i (by omega)).row D).2.1
theorem jx.tys{C:List Value}{thr:List (List Fm)}(h:jx w B l C thr){s n:Nat}{tv:Value}{H:List Value}(F:w.ownsRow a e s tv n H)(K:201≠e)(J:197≠e):(∀b∈l,¬aT tv b)/\∀G∈C,∀b,aT G b->¬aT tv b:=by
 have O:=h.lf
 have N:=h.lt
 have T:∀i (D:i< l.length),cN w B l[i] (C[i]'(by omega)) (thr[i]'(by omega)):=fun i D=>h.at_ i _ _ _ (List.getElem?_eq_getElem _) (List.getElem?_eq_getElem _) (List.getElem?_eq_getElem _)
 refine⟨fun b E=>?_,fun G L b E=>?_⟩
 ·obtain⟨i,D,rfl⟩:=List.getElem_of_mem E
  exact dE F (T i D).hd K
 ·obtain⟨i,D,rfl⟩:=List.getElem_of_mem L
  obtain⟨-,-,A,z,M⟩:=dN (T i (by omega)).row E
  exact dE F M J
theorem Je.next(h:Je w wr L m k tvk btk fvk)(hB:L.B<=w.heap.size)(r:m.thr[k]?=some t)(M:wu t)(s:t.length<=6)(W:Bw wr V)(J:V.ownsRow wr.heap.size 197 7 v t.length (eX t))(O:w4.ownsRow (w.heap.size+1) 194 1 v4 (k+1) (du btk++[aF V.heap.size]))(hg:((V.alloc (.cells #[v] 201)).alloc (.cells #[aF V.heap.size] 194)).grownBy w4 tvk.ownBlock):Je w (w4.setCell ⟨w.heap.size,1,none⟩ v4) L m (k+1) v4 (btk++[V.heap.size]) (fvk++[v]):=by
 obtain⟨c,T,z,a,y,x,Z⟩:=h
 have n:=Z.size
 have l:=W.size
 have H:=(aA c).lt
 obtain⟨A,R⟩:=bM ((V.alloc (.cells #[v] 201)).alloc (.cells #[aF V.heap.size] 194))
 rw[<-R]at hg
 have F:Bw V A:=by rw[R];exact(ba _ _).alloc (by simp) _
 have Q:A.heap[V.heap.size]?=some (.cells #[v] 201 (0,0)):=by
  rw[R]
  exact(Below.heap_alloc _ _ _ (by simp)).trans (heap_alloc_new V _)
 have kA:Bw wr A:=W.trans (F.mono l)
 have u:cN A L.B V.heap.size v t:=⟨M,Q,dP (aP J F) _ (by omega),s⟩
 obtain⟨q,o⟩:=a.lt_
 have G:=(a.kept (aC.of_below (S:=fun _=>False) kA) (fun _ _ e=>e) (fun _ _ _ _ e=>e)).add u (N:=wr.heap.size) q o (by omega) (fun b C=>(dN J C).1) (by omega)
 have K:=aP T kA
 obtain⟨j,g⟩:=G.tys K (by decide) (by decide)
 have Y:aC (fun b=>aT tvk b) A w4:=ef hg (fun i e=>e)
 have X:aC (fun b=>aT tvk b\/b=w.heap.size) A (w4.setCell (Ad w.heap.size 1) v4):=aC.setCell (S:=fun b=>aT tvk b\/b=w.heap.size) (p:=Ad w.heap.size 1) (Y.mono (fun b C=>.inl C)) (.inl (.inr rfl)) v4
 have f:∀b∈btk++[V.heap.size],w.heap.size< b:=fun b C=>by
  rcases List.mem_append.1 C with C|C
  ·exact y b C
  ·have:=List.mem_singleton.1 C;omega
 have d:∀E∈fvk++[v],∀b,aT E b->w.heap.size< b:=fun E D b C=>by
  rcases List.mem_append.1 D with D|D
  ·exact x E D b C
  ·have:=List.mem_singleton.1 D;subst this;have:=(dN J C).1;omega
 have P:w4.heap[w.heap.size]?=_:=(Y.block _ (by have:=kA.size;omega) (fun e=>by have:=(dN T e).1;omega)).trans ((kA.block _ H).trans c)
 have e1:du btk++[aF V.heap.size]=du (btk++[V.heap.size]):=by simp[du]
 rw[e1]at O
 have e2:m.thr.take (k+1)=m.thr.take k++[t]:=by rw[List.take_add_one,r];rfl
 refine⟨heap_setCell P 1 v4,ig O ((aC.refl (aK w.heap.size) _).set1 1 v4) (fun b C e=>by have:=(dN O C).1;have e:b=w.heap.size:=e;omega),by simp[z],?_,f,d,?_⟩
 ·rw[e2]
  exact G.kept X (fun b C e=>by rcases e with e|e;exact j b C e;have:=f b C;omega) (fun E D b C e=>by rcases e with e|e;exact g E D b C e;have:=d E D b C;omega)
 ·exact aC.to_below (((aC.of_below (S:=fun _=>False) (Z.trans (kA.mono n)))).trans' X (fun b e=>.inr (by rcases e with e|e;have:=(dN T e).1;omega;omega)))
end
end
section
section
variable {w:World} {y:Pg} {L:Ly} {K:Nat} {tv:Value} {bts:List Nat} {fvs:List Value} {F:iU} {m:Ms} {od:Od}
theorem jx.nil(w:World)(B:Nat):jx w B [] [] []:=⟨rfl,rfl,fun i bt C t e=>by simp at e,fun i j b e=>by simp at e,fun i j E D b e=>by simp at e,fun b A=>by simp at A⟩
structure Me(w w':World)(y:Pg)(L:Ly)(K:Nat)(m:Ms)(od:Od)(bc:Nat):Prop where
 ex:∃tv' bts' fvs' F' ob' hb' lb',nK w' y ⟨L.B,L.bF,bc,ob',hb',lb'⟩ K tv' bts' fvs' F' m od/\∀b,mV ⟨L.B,L.bF,bc,ob',hb',lb'⟩ tv' bts' fvs' b\/iM ob' F' b->w.heap.size<=b
 be:Below w.heap.size w w'
theorem Je.fin{wr v u W V J C:World}{z:Value}{H:List Value}{G:Int×Int->Option Vl}{P:Int->Option Int}{F':iU}(hI:Je w wr L m N z l H)(hN:N=m.thr.length)(h:nK w y L K tv bts fvs F m od)(p1:bI hQ v wr.heap.size K G)(a2:∀(o:Int) (k:Nat),(G (o,(k:Int))).getD (0,0)=hg m.hold o k)(T:Bw wr v)(s:u=v.setCell ⟨w.heap.size,3,none⟩ (.map (some wr.heap.size)))
  (p2:bI km W u.heap.size K P) (b2:∀k:Nat,P (k:Int)=(nJ m.hldr k).map (fun(n:Nat)=>(n:Int))) (R:Bw u W) (r:V=W.setCell ⟨w.heap.size,4,none⟩ (.map (some u.heap.size))) (p3:ip J a K F' od) (g3:V.heap.size<=a) (j:∀x b,F' x=some b->V.heap.size<=b) (Q:Bw V J) (q:C=J.setCell ⟨w.heap.size,5,none⟩ (aF a)):Me w C y L K m od w.heap.size:=by
 obtain⟨h1,g,h3,h4,h5,h6,h7⟩:=hI
 have d:=(aA h1).lt
 have z1:u.heap.size=v.heap.size:=by rw[s];simp
 have z2:V.heap.size=W.heap.size:=by rw[r];simp
 have z3:C.heap.size=J.heap.size:=by rw[q];simp
 have s1:=T.size
 have s2:=R.size
 have s3:=Q.size
 have l1:=p1.lt
 have l2:=p2.lt
 have c1:aC (aK w.heap.size) v u:=by rw[s];exact(aC.refl _ _).set1 3 _
 have c2:aC (aK w.heap.size) W V:=by rw[r];exact(aC.refl _ _).set1 4 _
 have c3:aC (aK w.heap.size) J C:=by rw[q];exact(aC.refl _ _).set1 5 _
 have K3:aC (aK w.heap.size) V C:=(aC.of_below Q).trans c3
 have K2:aC (aK w.heap.size) W C:=c2.trans K3
 have K1:aC (aK w.heap.size) v C:=(c1.trans (aC.of_below R)).trans K2
 have t:aC (aK w.heap.size) wr C:=(aC.of_below T).trans K1
 have kw:Bw w C:=aC.to_below ((aC.of_below (S:=fun _=>False) h7).trans' t (fun b e=>.inr (by have e:b=w.heap.size:=e;omega)))
 have O:=heap_setCell ((T.block _ d).trans h1) 3 (.map (some wr.heap.size))
 rw[<-s]at O
 have M:=heap_setCell ((R.block _ (aA O).lt).trans O) 4 (.map (some u.heap.size))
 rw[<-r]at M
 have x3:=heap_setCell ((Q.block _ (aA M).lt).trans M) 5 (aF a)
 rw[<-q]at x3
 obtain⟨y1,y2,y3,y4⟩:=h.mx.ge
 have X:=h.mx.pg.kept (aC.of_below (S:=fun _=>False) kw) (fun i e=>e.elim)
 have c:=p1.kept K1 (fun e=>by have e:wr.heap.size=w.heap.size:=e;omega)
 have Z:=p2.kept K2 (fun e=>by have e:u.heap.size=w.heap.size:=e;omega)
 have E:=ig g t (fun b A e=>by have:=(dN g A).1;have e:b=w.heap.size:=e;omega)
 have D:=h4.kept t (fun b A e=>by have:=h5 b A;have e:b=w.heap.size:=e;omega) (fun p G b A e=>by have:=h6 p G b A;have e:b=w.heap.size:=e;omega)
 rw[hN,List.take_length]at D
 have Y:=p3.kept c3 (fun e=>by have e:a=w.heap.size:=e;omega) (fun x b e e'=>by have:=j x b e;have e':b=w.heap.size:=e';omega)
 refine⟨⟨z,l,H,F',a,wr.heap.size,u.heap.size,⟨⟨X,⟨x3,?_,⟨G,c,a2⟩,⟨P,Z,b2⟩⟩,D,?_,?_⟩,Y,fun x b e=>?_,?_⟩,fun b A=>?_⟩,kw⟩
 ·rw[h3];exact dP E _ (by show L.B<=_;omega)
 ·show wr.heap.size≠u.heap.size;omega
 ·exact⟨by show L.B<=w.heap.size;omega,by show L.B<=wr.heap.size;omega,by show L.B<=u.heap.size;omega,by show L.B<=C.heap.size;omega⟩
 ·have:=j x b e
  exact⟨by show b≠wr.heap.size;omega,by show b≠u.heap.size;omega,by show L.B<=b;omega⟩
 ·show L.B<=a;omega
 ·rcases A with(rfl|rfl|rfl|A|A|⟨p,f,A⟩)|A|⟨x,hx⟩
  ·exact Nat.le_refl _
  ·show w.heap.size<=wr.heap.size;omega
  ·show w.heap.size<=u.heap.size;omega
  ·have:=(dN g A).1;omega
  ·have:=h5 b A;omega
  ·have:=h6 p f b A;omega
  ·omega
  ·have:=j x b hx;omega
theorem Km(h:nK w y L K tv bts fvs F m od)(hK:K<=1000000)(hn:m.thr.length< 100):Calls Tryz.prog 50 #[aF L.bm] w fun q w'=>q=.returned (aF w.heap.size)/\Me w w' y L K m od w.heap.size:=by
 obtain⟨i0,hi,an,am,al⟩:=pZ nz
 have b5:=h.mx.ts.lt
 have hB:=h.mx.ge.2.2.2
 have B:=h.mx.rs.mc
 have D:=h.mx.rs.row
 obtain⟨N,hN⟩:=bM bts.length
 rw[<-hN]at D
 obtain⟨pt,ct,rfl⟩:=aI D
 have m0:Ce w L.bm 0 (aF L.bF):=(aA B).cell 0
 have m1:Ce w L.bm 1 (.slice pt N ct):=(aA B).cell 1
 have m2:Ce w L.bm 2 (aB m.objs):=(aA B).cell 2
 have m3:Ce w L.bm 3 (.map (some L.hb)):=(aA B).cell 3
 have m4:Ce w L.bm 4 (.map (some L.lb)):=(aA B).cell 4
 have m5:Ce w L.bm 5 (aF L.ob):=(aA B).cell 5
 have b9:=(h.mx.blk (.inl rfl)).2
 obtain⟨HH,HR⟩:=aN h D
 have bb:N< 100:=by omega
 have HN:=aG hN
 clear h B D hN
 go_in
 go_wp2_with fail
 go_loopw [15] (fun i wr=>∃k:Nat,i=aB k/\k<=N/\∃P,Hid (∃p c,P=.slice p k c)/\Ce wr w.heap.size 1 P/\wr.frozen? (Ad w.heap.size 1)=false/\Hid (∃C M,Je w wr L m k P C M)) (fun i _=>N-(intOf i).toNat)
 case atStart=>
  have hz:(w.alloc (.cells (uh L.bF (.slice none 0 0) m.objs L.hb L.lb L.ob) 193)).heap[w.heap.size]?=some (.cells (uh L.bF (.slice none 0 0) m.objs L.hb L.lb L.ob) 193 (0,0)):=heap_alloc_new _ _
  refine⟨0,rfl,by omega,.slice none 0 0,⟨none,0,rfl⟩,(aA hz).cell 1,(aA hz).fz 1,[],[],hz,⟨rfl,.inl ⟨rfl,rfl⟩⟩,rfl,jx.nil _ _,fun b hb=>(by cases hb),fun fv hb=>(by cases hb),ba _ _⟩
 case round=>
  obtain⟨k,rfl,hk,P,HS,ck,fk,HI⟩:=hrel
  by_cases ao:k=N
  ·have a9:¬((k:Int)< (N:Int)):=by omega
   obtain⟨C,M,J⟩:=HI.out
   have H:=aG J
   have j:=J.2.2.2.2.2.2
   obtain⟨hf,a1,a2⟩:=(HH.below j).mx.rs.hd
   obtain⟨ax,az⟩:=aN (a1.cl KE) a2
   have b4:¬L.bm=w.heap.size:=by omega
   have n3:Ce wr L.bm 3 (.map (some L.hb)):=bc j m3
   have a8:=(aA J.1).lt
   have Y:k=m.thr.length:=by have:=HN.out;omega
   have au:=aG Y
   clear J j a1 a2 HI HS ao Y
   go_wp2_with fail
   refine ax.mono ?_
   rintro q x ⟨rfl,p1,q1,r1⟩
   obtain⟨W1,X⟩:=bM (x.setCell (Ad w.heap.size 3) (.map (some wr.heap.size)))
   have R:x.heap[w.heap.size]?=_:=(q1.block _ a8).trans H.1
   have d3:Ce x w.heap.size 3 (.map (some L.hb)):=(aA R).cell 3
   have z3:x.frozen? (Ad w.heap.size 3)=false:=(aA R).fz 3
   have d:=heap_setCell R 3 (.map (some wr.heap.size))
   rw[<-X]at d
   have Z:Bw w W1:=by rw[X];exact(H.2.2.2.2.2.2.trans (q1.mono (by have:=H.2.2.2.2.2.2.size;omega))).setCell (p:=Ad w.heap.size 3) (Nat.le_refl _) _
   obtain⟨lf,b1,b2⟩:=(HH.below Z).mx.rs.hl
   obtain⟨aw,ay⟩:=aN (b1.cl KD) b2
   have a5:Bw w x:=H.2.2.2.2.2.2.trans (q1.mono (by have:=H.2.2.2.2.2.2.size;omega))
   have n4:Ce x L.bm 4 (.map (some L.lb)):=bc a5 m4
   clear a5
   obtain⟨aj,ah,af,G⟩:=fK (And.intro p1 q1) X d Z
   clear p1 q1 r1 R d Z b1 b2 X
   go_wp2_with fail
   rw[<-ah.out]
   refine aw.mono ?_
   rintro q s ⟨rfl,p2,z,r2⟩
   have Q:s.heap[w.heap.size]?=_:=(z.block _ (aA af).lt).trans af
   obtain⟨W2,T⟩:=bM (s.setCell (Ad w.heap.size 4) (.map (some W1.heap.size)))
   have d4:Ce s w.heap.size 4 (.map (some L.lb)):=(aA Q).cell 4
   have z4:s.frozen? (Ad w.heap.size 4)=false:=(aA Q).fz 4
   have a:=heap_setCell Q 4 (.map (some W1.heap.size))
   rw[<-T]at a
   have a3:Bw w W2:=by rw[T];exact(G.trans (z.mono (by have:=G.size;omega))).setCell (p:=Ad w.heap.size 4) (Nat.le_refl _) _
   have av:=aG (Ka (HH.below a3).od hK)
   have a4:Bw w s:=G.trans (z.mono (by have:=G.size;omega))
   have n5:Ce s L.bm 5 (aF L.ob):=bc a4 m5
   clear a4
   obtain⟨ai,ag,ae⟩:=bY (And.intro p2 z) T a
   clear p2 z r2 Q a a3 T
   go_wp2_with fail
   rw[<-ag.out]
   refine av.mono ?_
   rintro q V3 ⟨b3,F',rfl,g3,p3,g4,q3⟩
   have f:V3.heap[w.heap.size]?=_:=(q3.block _ (aA ae).lt).trans ae
   have d5:Ce V3 w.heap.size 5 (aF L.ob):=(aA f).cell 5
   have z5:V3.frozen? (Ad w.heap.size 5)=false:=(aA f).fz 5
   have ak:=aG (H.fin au HH aj.1 az aj.2 ah ai.1 ay ai.2 ag p3 g3 g4 q3 rfl)
   clear g3 p3 g4 q3 f
   go_wp2_with fail
   go_ret
   exact⟨rfl,ak⟩
  ·have b7:k< N:=by omega
   have a9:(k:Int)< (N:Int):=by omega
   have b8:(0:Int)<=k:=by omega
   obtain⟨g,bd,e⟩:=aO HR (by omega)
   cases e
   obtain⟨p5,c5,rfl⟩:=HS.out
   obtain⟨C,M,J⟩:=HI.out
   obtain⟨t,ht⟩:∃t,m.thr[k]?=some t:=⟨_,List.getElem?_eq_getElem (by have:=HN.out;omega)⟩
   obtain⟨bt,fv,aa,ap,hT⟩:=HH.mx.thr ht
   have kw:=J.2.2.2.2.2.2
   have l:=hT.kept (aC.of_below (S:=fun _=>False) kw) (fun h=>h) (fun _ _ h=>h)
   have a7:=aP HR kw
   have a0:Ce wr g k (aF bt):=cZ a7 (by simp[du,aa])
   have b0:Ce wr bt 0 fv:=l.cell
   have aq:=aG (Fb (l.below (Below.refl _ wr).drew))
   have o:Hid (w.heap.size+1<=wr.heap.size):=by have:=(aA J.1).lt;exact this
   have a8:=aD ck
   have HO:Hid (∀W,Bw wr W->W.ownsRow (w.heap.size+1) 194 1 (.slice p5 k c5) k (du C)):=fun W kk=>aP J.2.1 kk
   have ar:Hid (∀V O v r,Bw wr V->V.ownsRow wr.heap.size 197 7 v t.length (eX t)->O.ownsRow (w.heap.size+1) 194 1 r (k+1) (du C++[aF V.heap.size])->((V.alloc (.cells #[v] 201)).alloc (.cells #[aF V.heap.size] 194)).grownBy O (Value.slice p5 k c5).ownBlock->Ce O w.heap.size 1 (.slice p5 k c5)/\O.frozen? (Ad w.heap.size 1)=false/\∃C M,Je w (O.setCell (Ad w.heap.size 1) r) L m (k+1) r C M):=fun V O v r k1 k2 k3 k4=>by
    have hA:Bw wr ((V.alloc (.cells #[v] 201)).alloc (.cells #[aF V.heap.size] 194)):=k1.trans (((ba V _).alloc (by simp) _).mono k1.size)
    have ac:O.heap[w.heap.size]?=_:=(k4.block w.heap.size (by have:=hA.size;have:=o.out;omega) (fun e=>by have:=(dN J.2.1 e.symm).1;omega)).trans ((hA.block _ o).trans J.1)
    exact⟨(aA ac).cell 1,(aA ac).fz 1,_,_,J.next hB ht hT.ok hT.len k1 k2 k3 k4⟩
   clear J kw l a7 hT ap aa HI HS
   go_wp2_with fail
   go_region_law (first
    |(refine bD rfl (.tmp 20) (.tmp 28) 191 rfl (w.heap.size+1) 194 i0 (.pointer none) 1 8 Tryz.underlying191 hi an am al rfl (by decide) _ _ _ (by simp[Act.eval,Act.put]) (((HO V KV).alloc _).alloc _) (Ad (V.heap.size+1) 0) 1 1 [aF V.heap.size] (by simp[Act.eval,Act.put]) rfl (cF _ _ _ _ (by simp)) (by intro u hu;simp at hu;subst hu;rfl) (by decide) (by unfold maxLen;omega) (by omega) (by have:=KV.size;have:=o.out;simp;omega) ?_;intro r O A E a6;obtain⟨f1,f2,HF⟩:=ar V O _ r KV HV A E;replace HF:=aG HF;obtain⟨p4,k4,rfl⟩:=aI A;clear A E a6)
    |(go_simp;go_at_call 73;refine aq.mono ?_;rintro q V ⟨v,rfl,hv,ab⟩;obtain⟨pv,cv,rfl⟩:=aI hv;have KV:Hid (Bw wr V):=(Below.refl _ wr).drew.trans ab;have HV:=aG hv;have e1:=bc KV ck;have l1:w.heap.size< V.heap.size:=aD e1;have l2:w.heap.size< V.heap.size+1:=Nat.lt_succ_of_lt l1;clear hv ab;try go_wp2_with fail))
   all_goals
    obtain⟨b6,f6,ad⟩:=HF.out
    have n:=aG ad
    clear ad
    go_wp2_with fail
    go_roundw
    case rel=>exact⟨k+1,by go_num,by omega,_,⟨_,_,rfl⟩,(aA n.1).cell 1,(aA n.1).fz 1,_,_,n⟩
    case measure=>simp[intOf];omega
end
end
def pS(p:Int):Ms:={thr:=[[⟨p,rK []⟩]],clk:=[[]],cap:=1}
theorem Cj{A V Z X R:World}{y:Pg}{p:Int}(hp:tX w B a y)(hB:B<=w.heap.size)(r:bI hQ A w.heap.size 0 (fun _=>none))(q:bI km A (w.heap.size+1) 0 (fun _=>none))(kA:Bw w A)(a1:A.heap.size=w.heap.size+1+1)(m:ip V (w.heap.size+1+1+5) 1 (F0 A.heap.size) Du)(u:Bw A V)(s:Bw V Z)(M:X.heap[V.heap.size]?=some (.cells (uh a (.slice none 0 0) 0 w.heap.size (w.heap.size+1) (w.heap.size+1+1+5)) 193 (0,0)))(t:Bw Z X)
  (O:R=((((X.setCell ⟨V.heap.size,1,none⟩ (.slice (some ⟨X.heap.size+1+1,0,none⟩) 1 1)).alloc (.cells #[aB p,.iface 148 (aB 0),.iface 148 (aB 0),.iface 148 (aB 0),.iface 148 (aB 0),.iface 148 (aB 0),.iface 148 (aB 0)] 197)).alloc (.cells #[.slice (some (Ad X.heap.size 0)) 1 1] 201)).alloc (.cells #[Pt (X.heap.size+1) 0] 194))):
  ∃L tv W T F,(Ending.returned (aF V.heap.size))=.returned (aF L.bm)/\L.B=B/\L.bF=a/\nK R y L 1 tv W T F (pS p) Du/\(∀b,mV L tv W T b\/iM L.ob F b->w.heap.size<=b)/\Bw w R:=by
 have sV:=u.size
 have sZ:=s.size
 have sX:=t.size
 have a0:=(aA M).lt
 have lo:=m.ltO
 obtain⟨S,Y⟩:=bM (X.setCell (Ad V.heap.size 1) (.slice (some (Ad (X.heap.size+1+1) 0)) 1 1))
 rw[<-Y]at O
 have n:S.heap.size=X.heap.size:=by rw[Y];simp
 obtain⟨P,d⟩:=bM (S.alloc (.cells #[aB p,.iface 148 (aB 0),.iface 148 (aB 0),.iface 148 (aB 0),.iface 148 (aB 0),.iface 148 (aB 0),.iface 148 (aB 0)] 197))
 rw[<-d]at O
 have o:P.heap.size=X.heap.size+1:=by rw[d];simp[n]
 obtain⟨Q,c⟩:=bM (P.alloc (.cells #[.slice (some (Ad X.heap.size 0)) 1 1] 201))
 rw[<-c]at O
 have zQ:Q.heap.size=X.heap.size+1+1:=by rw[c];simp[o]
 have kS:aC (aK V.heap.size) X S:=by rw[Y];exact(aC.refl _ _).set1 1 _
 have kP:Bw S P:=by rw[d];exact ba _ _
 have z:Bw P Q:=by rw[c];exact ba _ _
 have v:Bw Q R:=by rw[O];exact ba _ _
 have J:Bw P R:=z.trans (v.mono z.size)
 have H:Bw S R:=kP.trans (J.mono kP.size)
 have G:aC (aK V.heap.size) V R:=(((aC.of_below s).trans (aC.of_below t)).trans kS).trans (aC.of_below H)
 have E:Bw A R:=aC.to_below ((aC.of_below (S:=fun _=>False) u).trans' G (fun b e=>.inr (by have e:b=V.heap.size:=e;omega)))
 have D:Bw w R:=kA.trans (E.mono (by omega))
 have i:R.heap[V.heap.size]?=some (.cells (uh a (.slice (some (Ad (X.heap.size+1+1) 0)) 1 1) 0 w.heap.size (w.heap.size+1) (w.heap.size+1+1+5)) 193 (0,0)):=by
  refine(H.block _ (by omega)).trans ?_
  rw[Y]
  exact heap_setCell M 1 _
 have K:R.ownsRow B 194 1 (.slice (some (Ad (X.heap.size+1+1) 0)) 1 1) 1 (du [X.heap.size+1]):=by
  rw[O,<-zQ]
  exact jJ _ _ rfl rfl (by omega)
 have j:R.ownsRow B 197 7 (.slice (some (Ad X.heap.size 0)) 1 1) 1 (eX [⟨p,rK []⟩]):=by
  refine aP ?_ J
  rw[d,<-n]
  exact jJ _ _ rfl rfl (by omega)
 have g:R.heap[X.heap.size+1]?=some (.cells #[.slice (some (Ad X.heap.size 0)) 1 1] 201 (0,0)):=by
  refine(v.block _ (by omega)).trans ?_
  rw[c,<-o]
  exact heap_alloc_new _ _
 have hT:cN R B (X.heap.size+1) (.slice (some (Ad X.heap.size 0)) 1 1) [⟨p,rK []⟩]:=⟨fun f hf=>by have:=List.mem_singleton.1 hf;subst this;rfl,g,j,by simp⟩
 have l:=(jx.nil R B).add hT (N:=w.heap.size) (fun _ h=>by cases h) (fun _ h=>by cases h) (by omega) (fun b C=>by have:=Option.some.inj (show some X.heap.size=some b from C);omega) hB
 have fl:∀x b,F0 A.heap.size x=some b->A.heap.size<=b/\b< V.heap.size:=fun x b e=>⟨by rcases qE e with⟨-,h⟩|⟨-,h⟩|⟨-,h⟩|⟨-,h⟩|⟨-,h⟩<;>omega,m.lt e⟩
 refine⟨⟨B,a,V.heap.size,w.heap.size+1+1+5,w.heap.size,w.heap.size+1⟩,_,_,_,F0 A.heap.size,rfl,rfl,rfl,⟨⟨hp.kept (aC.of_below (S:=fun _=>False) D) (fun _ e=>e.elim),⟨i,K,⟨fun _=>none,(r.below E r.lt).mono (by omega),fun _ _=>rfl⟩,⟨fun _=>none,(q.below E q.lt).mono (by omega),fun _=>rfl⟩⟩,l,?_,?_⟩,m.kept G (fun e=>?_) (fun x b e e'=>?_),fun x b e=>?_,?_⟩,fun b C=>?_,D⟩
 ·show w.heap.size≠w.heap.size+1;omega
 ·have:=D.size
  exact⟨by show B<=V.heap.size;omega,by show B<=w.heap.size;omega,by show B<=w.heap.size+1;omega,by show B<=R.heap.size;omega⟩
 ·have e:w.heap.size+1+1+5=V.heap.size:=e;omega
 ·have e':b=V.heap.size:=e';have:=fl x b e;omega
 ·have:=fl x b e
  exact⟨by show b≠w.heap.size;omega,by show b≠w.heap.size+1;omega,by show B<=b;omega⟩
 ·show B<=w.heap.size+1+1+5;omega
 ·rcases C with(rfl|rfl|rfl|C|C|⟨fv,k,C⟩)|C|⟨x,hx⟩
  ·show w.heap.size<=V.heap.size;omega
  ·exact Nat.le_refl _
  ·show w.heap.size<=w.heap.size+1;omega
  ·have:=Option.some.inj (show some (X.heap.size+1+1)=some b from C);omega
  ·have:=List.mem_singleton.1 C;omega
  ·have:=List.mem_singleton.1 k;subst this;have:=Option.some.inj (show some X.heap.size=some b from C);omega
  ·have C:b=w.heap.size+1+1+5:=C;omega
  ·have:=fl x b hx;omega
theorem LN{y:Pg}{p:Int}(hp:tX w B a y)(z:B<=w.heap.size)(n:y.bg[y.mn]?=some p):Calls Tryz.prog 47 #[aF a] w fun q w'=>∃L tv Q P F,q=.returned (aF L.bm)/\L.B=B/\L.bF=a/\nK w' y L 1 tv Q P F (pS p) Du/\(∀b,mV L tv Q P b\/iM L.ob F b->w.heap.size<=b)/\Bw w w':=by
 have u:=@run_makeMap Tryz.prog
 obtain⟨A,M⟩:=bM ((w.alloc (.map #[] 0)).alloc (.map #[] 0))
 have kA:Bw w A:=by rw[M];exact(ba _ _).alloc (by simp) _
 have H:A.heap.size=w.heap.size+1+1:=by rw[M];simp
 have m:bI hQ A w.heap.size 0 (fun _=>none):=by rw[M];exact(bI.made hQ w).alloc _
 have l:bI km A (w.heap.size+1) 0 (fun _=>none):=by
  have:=bI.made km (w.alloc (.map #[] 0))
  rw[World.size_alloc,<-M]at this
  exact this
 obtain⟨HO,HA,h,K⟩:=fK (LK A) M (And.intro m (And.intro l kA)) hp
 have x:=hp.lt
 clear M m l kA
 go_in
 go_wp2_with fail
 rw[<-HA.out]
 refine HO.mono ?_
 rintro q V ⟨rfl,j,d⟩
 rw[H]at j
 have sV:=d.size
 obtain⟨Z,f⟩:=bM (V.alloc (.cells #[aF a,.slice none 0 0,aB 0,.map (some w.heap.size),.map (some (w.heap.size+1)),aF (w.heap.size+1+1+5)] 193))
 have G:Z.heap[V.heap.size]?=some (.cells (uh a (.slice none 0 0) 0 w.heap.size (w.heap.size+1) (w.heap.size+1+1+5)) 193 (0,0)):=by rw[f];exact heap_alloc_new _ _
 have i:Bw V Z:=by rw[f];exact ba _ _
 have o:a< V.heap.size:=by omega
 have E:Bw w V:=h.2.2.trans (d.mono (by omega))
 have D:Bw w Z:=E.trans (i.mono (by omega))
 have O:=K.kept (aC.of_below (S:=fun _=>False) E) (fun _ e=>e.elim)
 have N:=K.kept (aC.of_below (S:=fun _=>False) D) (fun _ e=>e.elim)
 obtain⟨g,c,gs,cs,-,-,t,s,-,-⟩:=N.ex
 have k:=aG (Ck (vs:=[]) ((aA G).cell 0) t (List.getElem?_eq_some_iff.1 n).1 (s _ _ n) (World.ownsRow_nil Z 0 82 1) (by decide))
 have cm:=O.mn
 obtain⟨HZ,J,W⟩:=bY f (And.intro G (And.intro i D)) (And.intro j d)
 clear f G i D E O N j d t s
 go_wp2_with fail
 rw[<-HZ.out]
 refine k.mono ?_
 rintro q X ⟨rfl,Y⟩
 have sX:=Y.size
 have C:=(Y.block _ (aA J.1).lt).trans J.1
 have d1:Ce X V.heap.size 1 (.slice none 0 0):=(aA C).cell 1
 have z1:X.frozen? (Ad V.heap.size 1)=false:=(aA C).fz 1
 have v:=(aA C).lt
 have T:=aG (And.intro C Y)
 have l2:V.heap.size< X.heap.size+1:=by omega
 have l3:V.heap.size< X.heap.size+1+1:=by omega
 have l4:V.heap.size< X.heap.size+1+1+1:=by omega
 rw[show Gq p (rK [])=#[aB p,.iface 148 (aB 0),.iface 148 (aB 0),.iface 148 (aB 0),.iface 148 (aB 0),.iface 148 (aB 0),.iface 148 (aB 0)]from rfl]
 clear C Y
 go_wp2_with fail
 obtain⟨R,r⟩:=bM ((((X.setCell (Ad V.heap.size 1) (.slice (some (Ad (X.heap.size+1+1) 0)) 1 1)).alloc (.cells #[aB p,.iface 148 (aB 0),.iface 148 (aB 0),.iface 148 (aB 0),.iface 148 (aB 0),.iface 148 (aB 0),.iface 148 (aB 0)] 197)).alloc (.cells #[.slice (some (Ad X.heap.size 0)) 1 1] 201)).alloc (.cells #[Pt (X.heap.size+1) 0] 194))
 rw[<-r]
 go_ret
 exact Cj K z h.1 h.2.1 h.2.2 H (by rw[H];exact W.1) W.2 J.2.1 T.1 T.2 r
def gN(l:List Nat):Int->Int
 |.ofNat n=>(l.getD n 0:Nat)
 |.negSucc _=>0
def gL(f:Nat->List Nat):Int->List Nat
 |.ofNat n=>f n
 |.negSucc _=>[]
def ue(t:Tc):Tk:=⟨t.th,t.pl,t.kd,t.ob,t.fd⟩
def pn:List Tc->Tk->Option Int
 |[],_=>none
 |t::l,k=>if k=ue t then some (t.n:Int)else pn l k
def fD(m:Ms):Od:=⟨fun x=>if x.1=0 then gN (gL (fun k=>m.clk.getD k []) x.2)else if x.1=1 then gN (gL (fun k=>(nJ m.mtx k).getD []) x.2)else fun _=>0,pn m.tch,m.clk.length⟩
def mx:List Nat->List Nat->List Nat
 |[],l=>l
 |l,[]=>l
 |a::l,b::m=>(bif Nat.ble a b then b else a)::mx l m
def inc:List Nat->Nat->List Nat
 |[],0=>[1]
 |[],i+1=>0::inc [] i
 |a::l,0=>(a+1)::l
 |a::l,i+1=>a::inc l i
def zu(x:Tc):List Tc->List Tc
 |[]=>[x]
 |t::l=>bif Nat.beq x.th t.th&&decide (x.pl=t.pl)&&Nat.beq x.kd t.kd&&decide (x.ob=t.ob)&&Nat.beq x.fd t.fd then x::l else t::zu x l
theorem EJ:∀(l:List Nat) (i n:Nat),(inc l i).getD n 0=if n=i then l.getD i 0+1 else l.getD n 0:=by
 intro l i
 induction i generalizing l with
 |zero=>
  intro n
  cases l with
  |nil=>cases n<;>simp[inc]
  |cons a l=>cases n<;>simp[inc]
 |succ i ih=>
  intro n
  cases l with
  |nil=>
   cases n with
   |zero=>simp[inc]
   |succ n=>have:=ih [] n;simp[inc]at this⊢;exact this
  |cons a l=>
   cases n with
   |zero=>simp[inc]
   |succ n=>have:=ih l n;simp[inc]at this⊢;exact this
theorem Ib:∀(a b:List Nat) (n:Nat),(mx a b).getD n 0=max (a.getD n 0) (b.getD n 0):=by
 intro a
 induction a with
 |nil=>intro b n;simp[mx]
 |cons x a ih=>
  intro b n
  cases b with
  |nil=>simp[mx]
  |cons z b=>
   cases n with
   |zero=>
    simp only[mx,List.getD_cons_zero]
    cases h:Nat.ble x z with
    |true=>have:=Nat.le_of_ble_eq_true h;simp;omega
    |false=>
     have:¬x<=z:=fun q=>by rw[Nat.ble_eq_true_of_le q]at h;cases h
     simp;omega
   |succ n=>simp only[mx,List.getD_cons_succ];exact ih b n
theorem Iv(l:List Nat)(i:Nat):gN (inc l i)=gD (gN l) (i:Int) (gN l i+1):=by
 funext x
 unfold gD
 match x with
 |.ofNat n=>
  show(((inc l i).getD n 0:Nat):Int)=if(n:Int)=(i:Int)then((l.getD i 0:Nat):Int)+1 else((l.getD n 0:Nat):Int)
  rw[EJ]
  by_cases h:n=i
  ·simp[h]
  ·rw[if_neg h,if_neg (by omega)]
 |.negSucc n=>rw[if_neg (by omega)];rfl
theorem Gp(a b:List Nat):gN (mx a b)=fun x=>max (gN a x) (gN b x):=by
 funext x
 match x with
 |.ofNat n=>
  show(((mx a b).getD n 0:Nat):Int)=max ((a.getD n 0:Nat):Int) ((b.getD n 0:Nat):Int)
  rw[Ib];omega
 |.negSucc n=>rfl
theorem Ba(x:Tc):∀(l:List Tc) (k:Tk),pn (zu x l) k=if k=ue x then some (x.n:Int)else pn l k:=by
 intro l
 induction l with
 |nil=>intro k;simp[zu,pn]
 |cons t l ih=>
  intro k
  have e:(Nat.beq x.th t.th&&decide (x.pl=t.pl)&&Nat.beq x.kd t.kd&&decide (x.ob=t.ob)&&Nat.beq x.fd t.fd)=decide (ue x=ue t):=by
   simp only[nu]
   by_cases h:ue x=ue t
   ·rw[decide_eq_true h]
    unfold ue at h
    injection h with h1 h2 h3 h4 h5
    simp[h2,h4]
    omega
   ·rw[decide_eq_false h]
    unfold ue at h
    cases A:(decide (x.th=t.th)&&decide (x.pl=t.pl)&&decide (x.kd=t.kd)&&decide (x.ob=t.ob)&&decide (x.fd=t.fd))with
    |false=>rfl
    |true=>
     simp at A
     exact absurd (by rw[A.1.1.1.1,A.1.1.1.2,A.1.1.2,A.1.2,A.2]) h
  simp only[zu,e]
  by_cases h:ue x=ue t
  ·rw[decide_eq_true h,cond_true]
   simp only[pn,h]
   by_cases q:k=ue t<;>simp[q]
  ·rw[decide_eq_false h,cond_false]
   simp only[pn,ih]
   by_cases q:k=ue t
   ·rw[if_pos q,if_pos q,if_neg (fun r=>h (r.symm.trans q))]
   ·rw[if_neg q,if_neg q]
theorem Cy{l:List (List Nat)}(A:i< l.length)(c:List Nat)(x:Int):gL (fun k=>(l.set i c).getD k []) x=if x=(i:Int)then c else gL (fun k=>l.getD k []) x:=by
 match x with
 |.ofNat n=>
  show(l.set i c).getD n []=if(n:Int)=(i:Int)then c else l.getD n []
  by_cases h:n=i
  ·subst h;rw[if_pos rfl];simp[List.getD_eq_getElem?_getD,List.getElem?_set_self A]
  ·rw[if_neg (by omega)];simp only[List.getD_eq_getElem?_getD];rw[List.getElem?_set_ne (by omega)]
 |.negSucc n=>rw[if_neg (by omega)];rfl
theorem EZ(l:List (List Nat))(c:List Nat)(x:Int):gL (fun k=>(l++[c]).getD k []) x=if x=(l.length:Int)then c else gL (fun k=>l.getD k []) x:=by
 match x with
 |.ofNat n=>
  show(l++[c]).getD n []=if(n:Int)=(l.length:Int)then c else l.getD n []
  simp only[List.getD_eq_getElem?_getD]
  by_cases h:n< l.length
  ·rw[List.getElem?_append_left h,if_neg (by omega)]
  ·rw[List.getElem?_append_right (by omega)]
   by_cases q:n=l.length
   ·subst q;simp
   ·rw[if_neg (by omega),List.getElem?_eq_none (by simp;omega),List.getElem?_eq_none (by omega)]
 |.negSucc n=>rw[if_neg (by omega)];rfl
theorem Iw(l:List (Nat×List Nat))(i:Nat)(c:List Nat)(x:Int):gL (fun k=>(nJ (put l i c) k).getD []) x=if x=(i:Int)then c else gL (fun k=>(nJ l k).getD []) x:=by
 match x with
 |.ofNat n=>
  show(nJ (put l i c) n).getD []=if(n:Int)=(i:Int)then c else(nJ l n).getD []
  rw[yW]
  by_cases h:n=i
  ·simp[h]
  ·rw[if_neg h,if_neg (by omega)]
 |.negSucc n=>rw[if_neg (by omega)];rfl
def LY(e:Tu):Bool:=decide (-1<=e.pl)&&decide (e.pl< 1000)&&decide (0<=e.kd)&&decide (e.kd< 100)&&decide (-1<=e.ob)&&decide (e.ob< 100)&&decide (0<=e.fd)&&decide (e.fd< 1000)
def GH(m:Ms)(i:Nat)(e:Tu):Option Ms:=
 bif LY e&&decide (i< m.clk.length)&&decide (m.clk.length<=100)then
  let c:=inc (m.clk.getD i []) i
  let m1:={m with clk:=m.clk.set i c,cap:=nX m.cap e}
  if e.kd=7 then(if e.ob=(m.clk.length:Int)then some {m1 with clk:=m1.clk++[c]}else none)
  else if e.kd=8 then(if 0<=e.ob/\e.ob< (m.clk.length:Int)/\e.ob≠(i:Int)then some {m1 with clk:=m.clk.set i (mx c (m.clk.getD e.ob.toNat []))}else none)
  else if e.kd=9 then some {m1 with clk:=m.clk.set i (mx c ((nJ m.mtx e.fd.toNat).getD []))}
  else if e.kd=10 then some {m1 with mtx:=put m.mtx e.fd.toNat c}
  else if e.kd=2\/e.kd=3\/e.kd=4\/e.kd=5 then
   bif m.tch.all (fun t=>!(FY (wB e) (ue t))||Nat.ble t.n (c.getD t.th 0))then some {m1 with tch:=zu ⟨i,e.pl,e.kd.toNat,e.ob,e.fd.toNat,c.getD i 0⟩ m.tch}else none
  else some m1
 else none
theorem yv{x:Int}(B:-1<=x)(A:x< 1000):gu x:=by
 by_cases h:x=-1
 ·subst h;decide
 ·exact AL (by omega) (by omega)
theorem Fz{m:Ms}:hU (fD m) (i:Int)=gN (inc (m.clk.getD i []) i):=by
 rw[Iv]
 rfl
theorem Od.ext'{a b:Od}(C:∀x,a.ck x=b.ck x)(B:a.tc=b.tc)(A:a.nt=b.nt):a=b:=by
 obtain⟨E,J,H⟩:=a
 obtain⟨D,G,F⟩:=b
 have:E=D:=funext C
 simp only at B A
 subst this;subst B;subst A
 rfl
theorem IF{m:Ms}(C:i< m.clk.length)(c:List Nat)(x:Int×Int):(fD {m with clk:=m.clk.set i c}).ck x=gD (fD m).ck (0,(i:Int)) (gN c) x:=by
 obtain⟨a,b⟩:=x
 unfold gD
 show(if a=0 then gN (gL (fun k=>(m.clk.set i c).getD k []) b)else _)=_
 by_cases B:a=0
 ·subst B
  rw[if_pos rfl,Cy C]
  by_cases A:b=(i:Int)
  ·rw[if_pos A,if_pos (by rw[A])]
  ·rw[if_neg A,if_neg (fun q=>A (congrArg Prod.snd q))];rfl
 ·rw[if_neg B,if_neg (fun q=>B (congrArg Prod.fst q))]
  show _=(if a=0 then _ else _)
  rw[if_neg B]
theorem yx{α β:Type}[DecidableEq α](f:α->β)(x:α)(u v:β):gD (gD f x u) x v=gD f x v:=by
 funext z;unfold gD;split<;>rfl
theorem Nb(m:Ms)(k:Int):(fD m).ck (0,k)=gN (gL (fun k=>m.clk.getD k []) k):=rfl
theorem Na(m:Ms)(k:Int):(fD m).ck (1,k)=gN (gL (fun k=>(nJ m.mtx k).getD []) k):=rfl
theorem Cz(f:Nat->List Nat){k:Int}(h:0<=k):gL f k=f k.toNat:=by
 obtain⟨n,rfl⟩:=Int.eq_ofNat_of_zero_le h
 rfl
theorem Bb:∀{l:List Tc} {y:Tk} {a:Int},pn l y=some a->∃t∈l,y=ue t/\a=(t.n:Int):=by
 intro l
 induction l with
 |nil=>intro y a h;cases h
 |cons t l ih=>
  intro y a h
  unfold pn at h
  split at h
  ·cases h;exact⟨t,by simp,‹_›,rfl⟩
  ·obtain⟨A,C,B⟩:=ih h
   exact⟨A,by simp[C],B⟩
def Gd(m m':Ms):Prop:=m'.thr=m.thr/\m'.objs=m.objs/\m'.hold=m.hold/\m'.hldr=m.hldr
theorem DW{m N:Ms}{e:Tu}(K:e.th=(i:Int))(h:GH m i e=some N):Dm (fD m) e/\fD N=lT (fD m) e/\Gd m N/\N.cap=nX m.cap e:=by
 unfold GH at h
 cases C:LY e&&decide (i< m.clk.length)&&decide (m.clk.length<=100)with
 |false=>rw[C]at h;cases h
 |true=>
  rw[C]at h
  simp only[cond_true]at h
  simp only[Bool.and_eq_true,decide_eq_true_eq]at C
  obtain⟨⟨S,f⟩,hl⟩:=C
  unfold LY at S
  simp only[Bool.and_eq_true,decide_eq_true_eq]at S
  obtain⟨⟨⟨⟨⟨⟨⟨o,l⟩,r⟩,k2⟩,p⟩,o2⟩,Z⟩,v⟩:=S
  have Q:gu e.th:=by rw[K];exact ud (by omega)
  have P:gu e.ob:=yv p (by omega)
  have O:gu e.fd:=yv (by omega) v
  have D:0<=e.th/\e.th< ((fD m).nt:Int):=by rw[K];exact⟨by omega,by show(i:Int)< (m.clk.length:Int);omega⟩
  have A:hU (fD m) e.th=gN (inc (m.clk.getD i []) i):=by rw[K];exact Fz
  have F:∀(T:Ms) c,T.clk=m.clk.set i c->T.mtx=m.mtx->∀x,(fD T).ck x=gD (fD m).ck (0,e.th) (gN c) x:=fun T c j g x=>by
   rw[K,<-IF f]
   show(if x.1=0 then gN (gL (fun k=>T.clk.getD k []) x.2)else if x.1=1 then gN (gL (fun k=>(nJ T.mtx k).getD []) x.2)else fun _=>0)=_
   rw[j,g]
   rfl
  generalize hc:inc (m.clk.getD i []) i=c at *
  split at h
  ·rename_i E
   split at h
   ·rename_i B
    cases h
    refine⟨⟨D,Q,P,O,fun _=>B,fun q=>by omega,fun q=>by omega⟩,?_,⟨rfl,rfl,rfl,rfl⟩,rfl⟩
    unfold lT
    rw[if_pos E]
    refine Od.ext' (fun x=>?_) rfl (by show(m.clk.set i c++[c]).length=m.clk.length+1;simp)
    show(if x.1=0 then gN (gL (fun k=>(m.clk.set i c++[c]).getD k []) x.2)else if x.1=1 then gN (gL (fun k=>(nJ m.mtx k).getD []) x.2)else fun _=>0)=gD (gD (fD m).ck (0,e.th) (hU (fD m) e.th)) (0,e.ob) (hU (fD m) e.th) x
    rw[A]
    obtain⟨a,b⟩:=x
    unfold gD
    by_cases H:a=0
    ·subst H
     simp only[if_true]
     rw[EZ,List.length_set,<-B]
     by_cases C:b=e.ob
     ·rw[if_pos C,if_pos (by rw[C])]
     ·rw[if_neg C,if_neg (fun q=>C (congrArg Prod.snd q)),Cy f]
      by_cases L:b=(i:Int)
      ·rw[if_pos L,if_pos (by rw[L,K])]
      ·rw[if_neg L,if_neg (fun q=>L (by rw[<-K];exact congrArg Prod.snd q))];rfl
    ·rw[if_neg H,if_neg (fun q=>H (congrArg Prod.fst q)),if_neg (fun q=>H (congrArg Prod.fst q))]
     show _=(if a=0 then _ else _)
     rw[if_neg H]
   ·cases h
  ·rename_i E
   split at h
   ·rename_i J
    split at h
    ·rename_i B
     have R:=F N (mx c (m.clk.getD e.ob.toNat [])) (by rw[<-Option.some.inj h]) (by rw[<-Option.some.inj h])
     cases h
     refine⟨⟨D,Q,P,O,fun q=>absurd q E,fun _=>⟨B.1,B.2.1,by rw[K];exact B.2.2⟩,fun q=>by omega⟩,?_,⟨rfl,rfl,rfl,rfl⟩,rfl⟩
     unfold lT
     rw[if_neg E,if_pos J]
     refine Od.ext' (fun x=>?_) rfl (by show(m.clk.set i _).length=m.clk.length;simp)
     rw[R]
     show _=gD (gD (fD m).ck (0,e.th) (hU (fD m) e.th)) (0,e.th) (fun x=>max (hU (fD m) e.th x) ((fD m).ck (0,e.ob) x)) x
     rw[yx,A,Gp,Nb,Cz _ B.1]
    ·cases h
   ·rename_i J
    split at h
    ·rename_i V
     have R:=F N (mx c ((nJ m.mtx e.fd.toNat).getD [])) (by rw[<-Option.some.inj h]) (by rw[<-Option.some.inj h])
     cases h
     refine⟨⟨D,Q,P,O,fun q=>absurd q E,fun q=>absurd q J,fun q=>by omega⟩,?_,⟨rfl,rfl,rfl,rfl⟩,rfl⟩
     unfold lT
     rw[if_neg E,if_neg J,if_pos V]
     refine Od.ext' (fun x=>?_) rfl (by show(m.clk.set i _).length=m.clk.length;simp)
     rw[R]
     show _=gD (gD (fD m).ck (0,e.th) (hU (fD m) e.th)) (0,e.th) (fun x=>max (hU (fD m) e.th x) ((fD m).ck (1,e.fd) x)) x
     rw[yx,A,Gp,Na,Cz _ Z]
    ·rename_i V
     split at h
     ·rename_i M
      cases h
      refine⟨⟨D,Q,P,O,fun q=>absurd q E,fun q=>absurd q J,fun q=>by omega⟩,?_,⟨rfl,rfl,rfl,rfl⟩,rfl⟩
      unfold lT
      rw[if_neg E,if_neg J,if_neg V,if_pos M]
      refine Od.ext' (fun x=>?_) rfl (by show(m.clk.set i _).length=m.clk.length;simp)
      show(if x.1=0 then gN (gL (fun k=>(m.clk.set i c).getD k []) x.2)else if x.1=1 then gN (gL (fun k=>(nJ (put m.mtx e.fd.toNat c) k).getD []) x.2)else fun _=>0)=gD (gD (fD m).ck (0,e.th) (hU (fD m) e.th)) (1,e.fd) (hU (fD m) e.th) x
      rw[A]
      obtain⟨a,b⟩:=x
      have d:=F {m with clk:=m.clk.set i c} c rfl rfl (a,b)
      have X:((e.fd.toNat:Nat):Int)=e.fd:=Int.toNat_of_nonneg Z
      unfold gD at d⊢
      by_cases H:a=1
      ·subst H
       rw[if_neg (show¬((1:Int),b).1=0 by simp),if_pos rfl,Iw,X]
       by_cases C:b=e.fd
       ·rw[if_pos C,if_pos (by rw[C])]
       ·rw[if_neg C,if_neg (fun q=>C (congrArg Prod.snd q)),if_neg (fun q=>by cases q)];rfl
      ·rw[if_neg (fun q=>H (congrArg Prod.fst q)),<-d]
       show(if a=0 then _ else if a=1 then _ else _)=(if a=0 then _ else if a=1 then _ else _)
       rw[if_neg H,if_neg H]
     ·rename_i M
      split at h
      ·rename_i W
       cases G:m.tch.all (fun t=>!(FY (wB e) (ue t))||Nat.ble t.n (c.getD t.th 0))with
       |false=>rw[G]at h;cases h
       |true=>
        rw[G]at h
        simp only[cond_true]at h
        have R:=F N c (by rw[<-Option.some.inj h]) (by rw[<-Option.some.inj h])
        cases h
        refine⟨⟨D,Q,P,O,fun q=>absurd q E,fun q=>absurd q J,fun _=>⟨⟨Q,yv o l,show gu e.kd from yv (by omega) (by omega),P,O⟩,fun y a oy s Y=>?_⟩⟩,?_,⟨rfl,rfl,rfl,rfl⟩,rfl⟩
        ·rw[A]
         obtain⟨t,u,rfl,rfl⟩:∃t∈m.tch,y=ue t/\a=(t.n:Int):=by
          exact Bb s
         have:=List.all_eq_true.1 G t u
         rw[Y]at this
         simp only[Bool.not_true,Bool.false_or]at this
         have:=Nat.le_of_ble_eq_true this
         show(t.n:Int)<=((c.getD t.th 0:Nat):Int)
         omega
        ·unfold lT
         rw[if_neg E,if_neg J,if_neg V,if_neg M,if_pos W]
         refine Od.ext' (fun x=>?_) ?_ (by show(m.clk.set i _).length=m.clk.length;simp)
         ·rw[R,<-A]
         ·funext z
          show pn (zu _ m.tch) z=if z=wB e then some (hU (fD m) e.th e.th)else pn m.tch z
          rw[Ba,A]
          have w:ue ⟨i,e.pl,e.kd.toNat,e.ob,e.fd.toNat,c.getD i 0⟩=wB e:=by
           unfold ue wB
           simp only[K,Int.toNat_of_nonneg r,Int.toNat_of_nonneg Z]
          rw[w,K]
          rfl
      ·rename_i W
       have R:=F N c (by rw[<-Option.some.inj h]) (by rw[<-Option.some.inj h])
       cases h
       refine⟨⟨D,Q,P,O,fun q=>absurd q E,fun q=>absurd q J,fun q=>absurd q W⟩,?_,⟨rfl,rfl,rfl,rfl⟩,rfl⟩
       unfold lT
       rw[if_neg E,if_neg J,if_neg V,if_neg M,if_neg W]
       refine Od.ext' (fun x=>?_) rfl (by show(m.clk.set i _).length=m.clk.length;simp)
       rw[R,<-A]
section
def rC(y:Pg)(m:Ms)(i:Nat):Option Ms:=match m.thr[i]? with
 |some t=>bif t.isEmpty then none else match KU y m i t with
  |some x=>bif decide (x.ev.th=(i:Int))then GH {x.ms m i with clk:=m.clk,mtx:=m.mtx,tch:=m.tch,cap:=m.cap} i x.ev else none
  |none=>none
 |none=>none
def Dt(y:Pg)(m:Ms):Bool:=m.thr.all (fun t=>(xd y m t).isSome)&&decide (m.thr.length< 100)&&decide (m.cap<=400000)
theorem tg{y:Pg}{m:Ms}(h:Dt y m=true):(∀t∈m.thr,(xd y m t).isSome=true)/\m.thr.length< 100/\m.cap<=400000:=by
 unfold Dt at h
 simp only[Bool.and_eq_true,decide_eq_true_eq,List.all_eq_true]at h
 exact⟨h.1.1,h.1.2,h.2⟩
section
variable {w:World} {y:Pg} {L:Ly} {tv:Value} {bts:List Nat} {fvs:List Value} {F:iU} {m m':Ms}
theorem nK.same{K:Nat}{A:Od}(h:nK w y L K tv bts fvs F m A)(B:Gd m m'):nK w y L K tv bts fvs F m' A:=by
 obtain⟨G,E,D,C⟩:=B
 obtain⟨⟨R,⟨N,M,J,H⟩,Q,P,O⟩,o,p,q⟩:=h
 exact⟨⟨R,⟨by rw[E];exact N,M,by rw[D];exact J,by rw[C];exact H⟩,by rw[G];exact Q,P,O⟩,o,p,q⟩
theorem Ic(h:nK w y L m.cap tv bts fvs F m (fD m))(ok:Dt y m=true)(T:(wz y m)[c]?=some i)(A:rC y m i=some m'):
  Ca 51 #[aF L.bm,aB c] w fun q w'=>∃e,q=.returned (.agg (tH e))/\∃D C B H,nK w' y L m'.cap D C B H m' (fD m')/\aC (fun b=>mV L tv bts fvs b\/iM L.ob F b) w w':=by
 obtain⟨Q,P,O⟩:=tg ok
 unfold rC at A
 split at A
 ·rename_i t S
  cases G:t.isEmpty with
  |true=>rw[G]at A;cases A
  |false=>
   rw[G]at A
   simp only[cond_false]at A
   split at A
   ·rename_i x R
    cases E:decide (x.ev.th=(i:Int))with
    |false=>rw[E]at A;cases A
    |true=>
     rw[E]at A
     simp only[cond_true]at A
     obtain⟨N,M,K,J⟩:=DW (of_decide_eq_true E) A
     refine(Ci h O Q P T S (fun q=>by rw[q]at G;cases G) R N).mono ?_
     rintro q w' ⟨rfl,D,C,B,H,W,V⟩
     refine⟨_,rfl,D,C,B,H,?_,V⟩
     rw[M,J]
     exact W.same K
   ·cases A
 ·cases A
end
structure mF(w:World)(N B bF bp:Nat)(y:Pg)(m:Ms):Prop where
 ex:∃br L tv bts fvs F,w.heap[bp]?=some (.cells #[aF br] 79 (0,0))/\w.heap[br]?=some (.cells #[aF L.bm] 143 (0,0))/\L.B=B/\L.bF=bF/\nK w y L m.cap tv bts fvs F m (fD m)/\(∀b,mV L tv bts fvs b\/iM L.ob F b->N<=b)
section
variable {w w':World} {N B bF bp br bm:Nat} {y:Pg} {m m':Ms}
theorem mF.below(h:mF w N B bF bp y m)(k:Bw w w'):mF w' N B bF bp y m:=by
 obtain⟨M,L,tv,C,A,F,E,D,K,J,H,G⟩:=h.ex
 exact⟨M,L,tv,C,A,F,(k.block _ (aA E).lt).trans E,(k.block _ (aA D).lt).trans D,K,J,H.below k,G⟩
theorem sM(h:w.cell? (Ad br 0)=some (aF bm)):Calls Tryz.prog 48 #[aF br] w (Ru w (.bool false)):=by
 go_in
 go_wp2_with fail
 go_ret
 exact⟨rfl,rfl⟩
theorem GS{P:Value->World->Prop}(h:w.cell? (Ad br 0)=some (aF bm))(H:Calls Tryz.prog 49 #[aF bm] w fun q w'=>∃v,q=.returned v/\P v w'):Calls Tryz.prog 30 #[aF br] w fun q w'=>∃v,q=.returned v/\P v w':=by
 obtain⟨C,D⟩:=aN H (sM h)
 clear H
 go_in
 go_wp2_with fail
 refine D.mono ?_
 rintro q X ⟨rfl,E⟩
 subst X
 go_wp2_with fail
 refine C.mono ?_
 rintro q X ⟨v,rfl,A⟩
 have B:=aG A
 clear A
 go_wp2_with fail
 go_ret
 exact⟨v,rfl,B⟩
end
end
theorem AP(n:Nat):vT n=443\/vT n=254\/vT n=148:=by
 match n with
 |1=>exact .inl rfl
 |2=>exact .inr (.inl rfl)
 |0=>exact .inr (.inr rfl)
 |n+3=>exact .inr (.inr rfl)
theorem Aw(v:Value)(w:World):(Go.method 634 443 v "Plain").run Tryz.prog w=.ok (373,v) w:=by kernel_rfl
theorem Av(v:Value)(w:World):(Go.method 634 254 v "Plain").run Tryz.prog w=.ok (369,v) w:=by kernel_rfl
theorem Ay(v:Value)(w:World):(Go.method 634 148 v "Plain").run Tryz.prog w=.ok (362,v) w:=by kernel_rfl
theorem MC(w:World)(n:Int):Calls Tryz.prog 373 #[aB n] w (Ru w (.tuple #[aB 1,aB n])):=by
 go_in
 go_wp2
 exact bodyPost_ret (v:=.tuple #[aB 1,aB n]) (by simp[results,Tryz.results373,go_sem]) rfl ⟨rfl,rfl⟩
theorem MB(w:World)(n:Int):Calls Tryz.prog 369 #[aB n] w (Ru w (.tuple #[aB 2,aB n])):=by
 go_in
 go_wp2
 exact bodyPost_ret (v:=.tuple #[aB 2,aB n]) (by simp[results,Tryz.results369,go_sem]) rfl ⟨rfl,rfl⟩
theorem MD(w:World)(n:Int):Calls Tryz.prog 362 #[aB n] w (Ru w (.tuple #[aB 0,aB n])):=by
 go_in
 go_wp2
 exact bodyPost_ret (v:=.tuple #[aB 0,aB n]) (by simp[results,Tryz.results362,go_sem]) rfl ⟨rfl,rfl⟩
theorem oF:(Tryz.prog.info? 55).map (·.size)=some 8:=by kernel_rfl
theorem Hm(w:World)(e:Tu):Calls Tryz.prog 32 #[.agg (tH e)] w fun q w'=>(∃(a b c d f g h:Int) (z:Bool),q=.returned (.agg #[aB a,aB b,aB c,aB d,aB f,aB g,aB h,.bool z]))/\Bw w w':=by
 unfold tH vI
 have C:=Aw
 have B:=Av
 have D:=Ay
 rcases AP e.vl.1 with A|A|A
 all_goals
  rw[A]
  clear A
  go_in
  go_wp2_with fail
 all_goals
  first|refine(MC _ _).mono ?_|refine(MB _ _).mono ?_|refine(MD _ _).mono ?_
  rintro q X ⟨rfl,E⟩
  subst X
  go_wp2_with fail
  refine bodyPost_ret (results_cell_row rfl _ _ (w.heap.size+1) 55 #[aB e.th,aB e.kd,aB e.pl,aB e.ob,aB e.fd,aB _,aB e.vl.snd,.bool e.en] (0,0) _ rfl ((Below.heap_alloc _ _ _ (by simp)).trans (by rw[<-World.size_alloc w (.cells #[aB e.th,aB e.kd,aB e.pl,aB e.ob,aB e.fd,.iface _ (aB e.vl.snd),.bool e.en] 84)];exact heap_alloc_new _ _)) Tryz.underlying55 rfl oF) rfl ⟨⟨_,_,_,_,_,_,_,_,rfl⟩,(((ba w _).alloc (by simp) _).alloc (by simp;omega) _)⟩
section
section
variable {w:World} {N B bF bp br bm:Nat} {y:Pg} {m m':Ms} {P:Value->World->Prop}
theorem Hh(h:w.cell? (Ad bp 0)=some (aF br))(H:Calls Tryz.prog 30 #[aF br] w fun q w'=>∃v,q=.returned v/\P v w'):Calls Tryz.prog 16 #[aF bp] w fun q w'=>∃v,q=.returned v/\P v w':=by
 have C:=aG H
 clear H
 go_in
 go_wp2_with fail
 refine C.mono ?_
 rintro q X ⟨v,rfl,A⟩
 have B:=aG A
 clear A
 go_wp2_with fail
 go_ret
 exact⟨v,rfl,B⟩
theorem mF.ready(h:mF w N B bF bp y m)(ok:Dt y m=true):Ca 16 #[aF bp] w fun q w'=>∃A,q=.returned A/\w'.ownsRow w.heap.size 3 1 A (wz y m).length (BX (wz y m))/\Bw w w':=by
 obtain⟨D,C,M⟩:=tg ok
 obtain⟨R,L,tv,K,J,F,H,G,Q,P,E,O⟩:=h.ex
 exact Hh ((aA H).cell 0) (GS ((aA G).cell 0) (Kj E.mx D C))
theorem JS{Q:World->Prop}(h:w.cell? (Ad br 0)=some (aF bm))(H:Calls Tryz.prog 50 #[aF bm] w fun q w'=>q=.returned (aF w.heap.size)/\Q w'):Calls Tryz.prog 31 #[aF br] w fun q w'=>∃X,Q X/\q=.returned (aF X.heap.size)/\w'=X.alloc (.cells #[aF w.heap.size] 143):=by
 obtain⟨C,D⟩:=aN H (sM h)
 clear H
 go_in
 go_wp2_with fail
 refine D.mono ?_
 rintro q X ⟨rfl,E⟩
 subst X
 go_wp2_with fail
 refine C.mono ?_
 rintro q X ⟨rfl,A⟩
 have B:=aG A
 clear A
 go_wp2_with fail
 go_ret
 exact⟨X,B,rfl,rfl⟩
theorem JZ{Q:Value->World->Prop}(h:w.cell? (Ad bp 0)=some (aF br))(H:Calls Tryz.prog 31 #[aF br] w fun q w'=>∃b,q=.returned (aF b)/\Q (aF b) w'):Calls Tryz.prog 17 #[aF bp] w fun q w'=>∃X b,Q (aF b) X/\q=.returned (aF X.heap.size)/\w'=X.alloc (.cells #[aF b] 79):=by
 have C:=aG H
 clear H
 go_in
 go_wp2_with fail
 refine C.mono ?_
 rintro q X ⟨b,rfl,A⟩
 have B:=aG A
 clear A
 go_wp2_with fail
 go_ret
 exact⟨X,b,B,rfl,rfl⟩
theorem mF.copy(h:mF w N B bF bp y m)(ok:Dt y m=true):Ca 17 #[aF bp] w fun q w'=>∃M,q=.returned (aF M)/\w.heap.size<=M/\mF w' w.heap.size B bF M y m/\Bw w w':=by
 obtain⟨j,R,i⟩:=tg ok
 obtain⟨l,L,tv,f,d,F,c,a,Z,Y,W,k⟩:=h.ex
 refine(JZ (Q:=fun v w'=>∃X,Me w X y L m.cap m (fD m) w.heap.size/\v=aF X.heap.size/\w'=X.alloc (.cells #[aF w.heap.size] 143)) ((aA c).cell 0) ((JS ((aA a).cell 0) (Km W (by omega) R)).mono ?_)).mono ?_
 ·rintro q w' ⟨X,A,rfl,rfl⟩
  exact⟨_,rfl,X,A,rfl,rfl⟩
 ·rintro q w' ⟨n,b,⟨X,A,S,rfl⟩,rfl,rfl⟩
  obtain⟨E,D,C,g,G,K,H,V,T⟩:=A.ex
  have O:Bw X ((X.alloc (.cells #[aF w.heap.size] 143)).alloc (.cells #[aF b] 79)):=(ba _ _).alloc (by simp) _
  have J:b=X.heap.size:=by injection S with e;injection e with e;injection e with e
  have P:=A.be.size
  refine⟨_,rfl,by simp;omega,⟨b,⟨L.B,L.bF,w.heap.size,G,K,H⟩,E,D,C,g,heap_alloc_new _ _,?_,Z,Y,V.below O,T⟩,A.be.trans (O.mono P)⟩
  rw[J]
  exact(Below.heap_alloc _ _ _ (by simp)).trans (heap_alloc_new X _)
theorem Ih{Q:World->Prop}{v:Nat}(h:w.cell? (Ad bm 5)=some (aF a))(H:Calls Tryz.prog 119 #[aF a] w fun q w'=>q=.returned (.map (some v))/\Q w'):Calls Tryz.prog 80 #[aF bm] w fun q w'=>q=.returned (.map (some v))/\Q w':=by
 have C:=aG H
 clear H
 go_in
 go_wp2_with fail
 refine C.mono ?_
 rintro q X ⟨rfl,A⟩
 have B:=aG A
 clear A
 go_wp2_with fail
 go_ret
 exact⟨rfl,B⟩
theorem GU{Q:World->Prop}{v:Nat}(h:w.cell? (Ad br 0)=some (aF bm))(H:Calls Tryz.prog 80 #[aF bm] w fun q w'=>q=.returned (.map (some v))/\Q w'):Calls Tryz.prog 52 #[aF br] w fun q w'=>q=.returned (.map (some v))/\Q w':=by
 obtain⟨C,D⟩:=aN H (sM h)
 clear H
 go_in
 go_wp2_with fail
 refine D.mono ?_
 rintro q X ⟨rfl,E⟩
 subst X
 go_wp2_with fail
 refine C.mono ?_
 rintro q X ⟨rfl,A⟩
 have B:=aG A
 clear A
 go_wp2_with fail
 go_ret
 exact⟨rfl,B⟩
theorem mF.races(h:mF w N B bF bp y m):∃C,w.cell? (Ad bp 0)=some (aF C)/\∀W,Bw w W->Ca 52 #[aF C] W fun q w'=>q=.returned (.map (some W.heap.size))/\bI kL w' W.heap.size 0 (fun _=>none)/\Bw W w':=by
 obtain⟨C,L,tv,K,J,F,H,E,P,O,G,M⟩:=h.ex
 refine⟨C,(aA H).cell 0,fun W k=>?_⟩
 have D:=(k.block _ (aA E).lt).trans E
 have A:=G.below k
 exact GU ((aA D).cell 0) (Ih ((aA A.mx.rs.mc).cell 5) (Hy A.od))
end
end
section
section
variable {w:World} {N B bF bp br c i:Nat} {y:Pg} {m m':Ms} {L:Ly} {tv:Value} {bts:List Nat} {fvs:List Value} {F:iU}
theorem nK.put{K:Nat}{D:Od}{A:Array Value}{ty:TypeId}{w':World}(h:nK w y L K tv bts fvs F m D)(E:w.heap[b]?=some (.cells A ty (0,0)))(O:ty≠193)(N:ty≠194)(M:ty≠201)(J:ty≠197)(H:ty≠248)(P:L.B<=b)(k:aC (aK b) w w'):nK w' y L K tv bts fvs F m D:=by
 have Q:=h.mx.noT E O N M J
 have G:=h.od.noT E H
 exact⟨h.mx.kept k (fun c C=>by have C:c=b:=C;subst C;exact⟨P,Q⟩),h.od.kept k (fun e=>G (.inl (show L.ob=b from e).symm)) (fun a c e e'=>G (.inr ⟨a,(show c=b from e')▸e⟩)),h.ap,h.ge⟩
theorem JN(O:w.heap[br]?=some (.cells #[aF L.bm] 143 (0,0)))(h:nK w y L m.cap tv bts fvs F m (fD m))(ok:Dt y m=true)(f:(wz y m)[c]?=some i)(Z:rC y m i=some m'):
  Calls Tryz.prog 33 #[aF br,aB c] w fun q w'=>∃e,q=.returned (.agg (tH e))/\∃D B A Q,nK w' y L m'.cap D B A Q m' (fD m')/\aC (fun b=>mV L tv bts fvs b\/iM L.ob F b) w w':=by
 obtain⟨W,K⟩:=bM (w.alloc (.cells #[aB 0,aB 0,aB 0,aB 0,aB 0,.nilIface,.bool false] 84))
 have H:Bw w W:=by rw[K];exact ba _ _
 have E:W.heap[w.heap.size]?=some (.cells #[aB 0,aB 0,aB 0,aB 0,aB 0,.nilIface,.bool false] 84 (0,0)):=by rw[K];exact heap_alloc_new _ _
 have d:=(aA O).lt
 have j:Ce w br 0 (aF L.bm):=(aA O).cell 0
 have g:Ce W br 0 (aF L.bm):=bc H j
 obtain⟨r,o⟩:=aN (sM g) (Ic (h.below H) ok f Z)
 have l:Hid (∀X,aC (fun b=>mV L tv bts fvs b\/iM L.ob F b) W X->X.heap[w.heap.size]?=some (.cells #[aB 0,aB 0,aB 0,aB 0,aB 0,.nilIface,.bool false] 84 (0,0))):=fun X k=>(k.block _ (aA E).lt (fun e=>by rcases e with e|e;have:=(h.mx.blk e).2;omega;have:=h.od.seeLt e;omega)).trans E
 obtain⟨P,n⟩:=aN H K
 have N:=h.mx.ge.2.2.2
 clear K H E h O
 go_in
 go_wp2_with fail
 rw[<-n.out]
 refine r.mono ?_
 rintro q X ⟨rfl,s⟩
 subst X
 go_wp2_with fail
 refine o.mono ?_
 rintro q X ⟨ev,rfl,D,B,A,Q,T,G⟩
 have C:=l X G
 have e0:Ce X w.heap.size 0 (aB 0):=(aA C).cell 0
 have e1:Ce X w.heap.size 1 (aB 0):=(aA C).cell 1
 have e2:Ce X w.heap.size 2 (aB 0):=(aA C).cell 2
 have e3:Ce X w.heap.size 3 (aB 0):=(aA C).cell 3
 have z:Ce X w.heap.size 4 (aB 0):=(aA C).cell 4
 have v:Ce X w.heap.size 5 .nilIface:=(aA C).cell 5
 have u:Ce X w.heap.size 6 (.bool false):=(aA C).cell 6
 have t:∀x,X.frozen? (Ad w.heap.size x)=false:=(aA C).fz
 obtain⟨V,p⟩:=aN C (And.intro T G)
 unfold tH vI
 clear C T G
 go_wp2_with fail
 obtain⟨Y,J⟩:=bM (((((((X.setCell (Ad w.heap.size 0) (aB ev.th)).setCell (Ad w.heap.size 1) (aB ev.kd)).setCell (Ad w.heap.size 2) (aB ev.pl)).setCell (Ad w.heap.size 3) (aB ev.ob)).setCell (Ad w.heap.size 4) (aB ev.fd)).setCell (Ad w.heap.size 5) (.iface (vT ev.vl.fst) (aB ev.vl.snd))).setCell (Ad w.heap.size 6) (.bool ev.en))
 have M:Y.heap[w.heap.size]?=some (.cells (tH ev) 84 (0,0)):=by
  have M:=heap_setCell (heap_setCell (heap_setCell (heap_setCell (heap_setCell (heap_setCell (heap_setCell V 0 (aB ev.th)) 1 (aB ev.kd)) 2 (aB ev.pl)) 3 (aB ev.ob)) 4 (aB ev.fd)) 5 (.iface (vT ev.vl.fst) (aB ev.vl.snd))) 6 (.bool ev.en)
  simp only[fT,fR,fQ]at M
  rw[J]
  exact M
 have R:aC (aK w.heap.size) X Y:=by
  rw[J]
  exact((((((((aC.refl _ _).set1 0 _).set1 1 _).set1 2 _).set1 3 _).set1 4 _).set1 5 _).set1 6 _)
 rw[<-J]
 clear J
 refine bodyPost_ret (results_cell_row rfl _ _ w.heap.size 84 (tH ev) (0,0) _ rfl M Tryz.underlying84 rfl iT) rfl ⟨ev,rfl,D,B,A,Q,?_⟩
 obtain⟨a,G⟩:=p
 exact⟨a.put V (by decide) (by decide) (by decide) (by decide) (by decide) N R,((aC.of_below P).trans G).trans' R (fun b S=>.inr (by have S:b=w.heap.size:=S;omega))⟩
theorem mF.step(h:mF w N B bF bp y m)(P:N<=w.heap.size)(ok:Dt y m=true)(hc:(wz y m)[c]?=some i)(hs:rC y m i=some m'):
  Calls Tryz.prog 18 #[aF bp,aB c] w fun q w'=>∃v,q=.returned v/\mF w' 0 B bF bp y m'/\Below N w w':=by
 obtain⟨l,L,tv,R,Q,F,f,d,C,h4,a,h6⟩:=h.ex
 obtain⟨W,V⟩:=bM (w.alloc (.cells #[aB 0,aB 0,aB 0,aB 0,aB 0,aB 0,aB 0,.bool false] 55))
 have J:Bw w W:=by rw[V];exact ba _ _
 have M:W.heap[w.heap.size]?=some (.cells #[aB 0,aB 0,aB 0,aB 0,aB 0,aB 0,aB 0,.bool false] 55 (0,0)):=by rw[V];exact heap_alloc_new _ _
 have l1:=(aA f).lt
 have l2:=(aA d).lt
 have d0:Ce w bp 0 (aF l):=(aA f).cell 0
 have HS:=aG (JN ((J.block _ l2).trans d) (a.below J) ok hc hs)
 have j:=a.below J
 have HF:Hid (∀X G E D g,nK X y L m'.cap G E D g m' (fD m')->aC (fun b=>mV L tv R Q b\/iM L.ob F b) W X->X.heap[w.heap.size]?=some (.cells #[aB 0,aB 0,aB 0,aB 0,aB 0,aB 0,aB 0,.bool false] 55 (0,0))/\∀Y,aC (aK w.heap.size) X Y->mF Y 0 B bF bp y m'/\Below N w Y):=fun X G E D g q1 q2=>by
  have n:∀{b:Nat} {A:Array Value} {ty:TypeId},W.heap[b]?=some (.cells A ty (0,0))->ty≠193->ty≠194->ty≠201->ty≠197->ty≠248->X.heap[b]?=some (.cells A ty (0,0)):=fun H n1 n2 n3 n4 n5=>(q2.block _ (aA H).lt (fun e=>by rcases e with e|e;exact j.mx.noT H n1 n2 n3 n4 e;exact j.od.noT H n5 e)).trans H
  have z0:=n M (by decide) (by decide) (by decide) (by decide) (by decide)
  have z1:=n ((J.block _ l1).trans f) (by decide) (by decide) (by decide) (by decide) (by decide)
  have z2:=n ((J.block _ l2).trans d) (by decide) (by decide) (by decide) (by decide) (by decide)
  refine⟨z0,fun Y k=>⟨⟨l,L,G,E,D,g,(k.block _ (aA z1).lt (fun e=>by have e:bp=w.heap.size:=e;omega)).trans z1,(k.block _ (aA z2).lt (fun e=>by have e:l=w.heap.size:=e;omega)).trans z2,C,h4,q1.put z0 (by decide) (by decide) (by decide) (by decide) (by decide) a.mx.ge.2.2.2 k,fun b H=>Nat.zero_le _⟩,?_⟩⟩
  have K:aC (fun b=>mV L tv R Q b\/iM L.ob F b) w Y:=((aC.of_below J).trans q2).trans' k (fun b H=>.inr (by have H:b=w.heap.size:=H;omega))
  exact⟨K.os,K.tape,K.output,K.size,fun b H=>K.block b (by omega) (fun e=>by have:=h6 b e;omega)⟩
 have HW:=aG V
 clear V J M h f d C h4 a h6 j
 go_in
 go_wp2_with fail
 rw[<-HW.out]
 refine HS.mono ?_
 rintro q X ⟨ev,rfl,G,E,D,g,hM,hk⟩
 obtain⟨C,hF⟩:=HF X _ _ _ _ hM hk
 obtain⟨a8,H3,O⟩:=bY hF C (Hm X ev)
 unfold tH at O⊢
 clear hM hk hF C
 go_wp2_with fail
 refine O.mono ?_
 rintro q Z ⟨⟨a0,z,u,t,s,r,p,o,rfl⟩,kZ⟩
 have C:=(kZ.block _ (aA H3).lt).trans H3
 have e0:Ce Z w.heap.size 0 (aB 0):=(aA C).cell 0
 have e1:Ce Z w.heap.size 1 (aB 0):=(aA C).cell 1
 have e2:Ce Z w.heap.size 2 (aB 0):=(aA C).cell 2
 have e3:Ce Z w.heap.size 3 (aB 0):=(aA C).cell 3
 have e4:Ce Z w.heap.size 4 (aB 0):=(aA C).cell 4
 have e5:Ce Z w.heap.size 5 (aB 0):=(aA C).cell 5
 have e6:Ce Z w.heap.size 6 (aB 0):=(aA C).cell 6
 have e7:Ce Z w.heap.size 7 (.bool false):=(aA C).cell 7
 have ez:∀x,Z.frozen? (Ad w.heap.size x)=false:=(aA C).fz
 have S:=aG (And.intro C kZ)
 clear C kZ
 go_wp2_with fail
 obtain⟨Y,T⟩:=bM ((((((((Z.setCell (Ad w.heap.size 0) (aB a0)).setCell (Ad w.heap.size 1) (aB z)).setCell (Ad w.heap.size 2) (aB u)).setCell (Ad w.heap.size 3) (aB t)).setCell (Ad w.heap.size 4) (aB s)).setCell (Ad w.heap.size 5) (aB r)).setCell (Ad w.heap.size 6) (aB p)).setCell (Ad w.heap.size 7) (.bool o))
 have P:Y.heap[w.heap.size]?=some (.cells #[aB a0,aB z,aB u,aB t,aB s,aB r,aB p,.bool o] 55 (0,0)):=by
  have P:=heap_setCell (heap_setCell (heap_setCell (heap_setCell (heap_setCell (heap_setCell (heap_setCell (heap_setCell S.1 0 (aB a0)) 1 (aB z)) 2 (aB u)) 3 (aB t)) 4 (aB s)) 5 (aB r)) 6 (aB p)) 7 (.bool o)
  simp only[fT,fR,fQ]at P
  rw[T]
  exact P
 have kY:aC (aK w.heap.size) X Y:=by
  rw[T]
  exact(((((((((aC.of_below S.2).set1 0 _).set1 1 _).set1 2 _).set1 3 _).set1 4 _).set1 5 _).set1 6 _).set1 7 _)
 rw[<-T]
 clear T
 exact bodyPost_ret (results_cell_row rfl _ _ w.heap.size 55 _ (0,0) _ rfl P Tryz.underlying55 rfl oF) rfl ⟨_,rfl,a8 Y kY⟩
end
end
theorem LP(w:World):Calls Tryz.prog 121 #[aH 0] w (Rt w (aB 0)):=by
 go_in
 go_wp2
 go_ret
 exact⟨congrArg (fun x=>Ending.returned (aB x)) (by first|rfl|kernel_rfl),Below.refl _ _⟩
theorem Ks(w:World)(f:Value):Calls Tryz.prog 178 #[.slice none 0 0,aB 0,aB 0,f] w (Ru w (.tuple #[])):=by
 go_in
 go_wp2_with fail
 refine wp_loop_rounds 1 ?_
 rw[rounds_succ]
 go_wp2_with fail
 go_end0
 exact⟨rfl,rfl⟩
theorem LF(w:World)(f:Value):Calls Tryz.prog 120 #[.slice none 0 0,aB 0,aB 0,aB 0,f] w (Ru w (.tuple #[])):=by
 have A:=aG (Ks w f)
 go_in
 go_wp2_with fail
 refine wp_loop_rounds 1 ?_
 rw[rounds_succ]
 go_wp2_with fail
 refine A.mono ?_
 rintro q X ⟨rfl,B⟩
 subst X
 go_wp2_with fail
 exact bodyPost_ret (results_none rfl _ _ _) rfl ⟨rfl,rfl⟩
theorem JH(w:World)(f:Value):Calls Tryz.prog 81 #[.slice none 0 0,f] w (Rt w (.tuple #[])):=by
 have C:=aG (LP w)
 go_in
 go_wp2_with fail
 refine C.mono ?_
 rintro q X ⟨rfl,A⟩
 have B:=aG A
 clear A
 go_wp2_with fail
 refine(LF X f).mono ?_
 rintro q Z ⟨rfl,D⟩
 subst Z
 go_wp2_with fail
 go_end0
 exact⟨rfl,B⟩
theorem IC(w:World):Calls Tryz.prog 54 #[.slice none 0 0,.slice none 0 0] w (Ru w (.bool true)):=by
 go_in
 go_wp2_with fail
 refine wp_loop_rounds 1 ?_
 rw[rounds_succ]
 go_wp2_with fail
 go_ret
 exact⟨rfl,rfl⟩
theorem uS:Keyed Tryz.prog kL.k:=oq
theorem Cd(h:bI kL w b 0 (fun _=>none)):Calls Tryz.prog 53 #[.map (some b)] w (Rt w (.slice none 0 0)):=by
 obtain⟨D,A,-,-⟩:=h
 have N:=A.lt
 have L:=A.size_le
 go_in
 go_wp2_with (first|(at_range;refine wpList_range_own _ rfl _ 149 rfl 90 3 uS Tryz.underlying149 _ b 0 D rfl A ?_;intro K B G M)|go_in)
 have J:Hid (Bw w K):=aC.to_below (ef G (fun k e=>by cases e))
 have C:Maps.size D=0:=by omega
 rw[C]at B
 refine wp_loop_rounds 1 ?_
 rw[rounds_succ]
 go_wp2_with (first
  |(at_next;refine wpList_next_ranges (α:=Value) (β:=Value) _ rfl _ rfl 90 uS oO id id (fun F P h=>⟨F,rfl⟩) (fun v y h=>⟨v,rfl⟩) b w.heap.size 0 _ _ _ rfl B ?_ (fun _ _ _ _ _ _ _ _ _ _ _ E=>absurd E (by omega)))
  |go_in)
 intro _
 go_wp2_with fail
 refine(JH _ _).mono ?_
 rintro q X ⟨rfl,H⟩
 have O:=aG H
 clear H
 go_wp2_with fail
 go_ret
 exact⟨rfl,J.trans (O.mono J.size)⟩
theorem BL:kL.Good where
 kd:=oq
 key:=fun x A=>tA A.1 A.2
 inj:=fun x y A B h=>by
  have E:=tA A.1 A.2
  have C:=tA B.1 B.2
  have h:Lit.string (keyBytes (kI [x.1,x.2]))=.string (keyBytes (kI [y.1,y.2])):=h
  rw[<-h]at C
  have:=vj E C
  simp at this
  exact Prod.ext this.1 this.2
 lit:=fun _=>trivial
 mke:=fun a D=>if_pos D
 inv:=fun v a F h=>by obtain⟨c,_,rfl,e⟩:=hH h;cases e;rfl
theorem IE(h:bI kL w b 0 (fun _=>none)):∃w',(∀ty,(Builtin.clear_ #[149] ty #[.map (some b)]).run Tryz.prog w=.ok (.tuple #[]) w')/\bI kL w' b 0 (fun _=>none)/\aC (aK b) w w':=by
 obtain⟨D,⟨M,c,A,H,E,J⟩,L,K⟩:=h
 have G:M=#[]:=Array.eq_empty_of_size_eq_zero (by omega)
 subst G
 obtain⟨C,B⟩:=MapKept.heap_set (o':=.map #[] c) A
 refine⟨{w with heap:=w.heap.setIfInBounds b (.map #[] c)},fun ty=>by simp[Builtin.clear_,run_underlying Tryz.underlying149,MapKept.run_getObj_map A,MapKept.run_setObj_map _ A,Result.andThen],⟨D,⟨#[],c,C,H,E,J⟩,L,K⟩,⟨rfl,rfl,rfl,by simp,fun i N F=>B i (fun e=>F e)⟩⟩
theorem mF.racesP{y:Pg}{m:Ms}(h:mF w N B a c y m):Calls Tryz.prog 34 #[aF c] w (Rt w (.tuple #[.slice none 0 0,.bool true])):=by
 obtain⟨r,l,k⟩:=h.races
 have n:=aG k
 have o:=aD l
 have z:=fun(w:World) (b:Nat)=>run_eql_map_nil_sl (P:=Tryz.prog) w 149 _ _ (some b) Tryz.underlying149
 clear k h
 go_in
 go_wp2_with fail
 refine(n w (Below.refl _ _)).mono ?_
 rintro q V ⟨rfl,Q,f⟩
 obtain⟨x,H,K⟩:=bY (Cd Q) Q f
 clear Q f
 go_wp2_with fail
 refine x.mono ?_
 rintro q X ⟨rfl,O⟩
 have F:=H.below O H.lt
 obtain⟨Y,j,E,d⟩:=IE F
 obtain⟨Z,A,-,g⟩:=E.put BL (t:=149) (e:=3) Tryz.underlying149 (by omega) (-1,-1) ⟨show gu (-1)by decide,show gu (-1)by decide⟩ 7 (show gu 7 by decide)
 have A:(Instr.mapUpdate 149 (.map (some w.heap.size)) (.agg #[aB (-1),aB (-1)]) (aB 7)).run Tryz.prog Y=.ok () Z:=A
 have M:Bw w Z:=aC.to_below ((aC.of_below (S:=fun _=>False) (K.trans (O.mono K.size))).trans' (d.trans (aC.of_turned g)) (fun i e=>.inr (by have e:i=w.heap.size:=e;omega)))
 have R:=aG (n Z M)
 have d0:Ce Z c 0 (aF r):=bc M l
 have J:=aG M
 clear M g E d F O
 go_wp2_with fail
 refine R.mono ?_
 rintro q V2 ⟨rfl,G,D⟩
 obtain⟨T,L⟩:=aN (Cd G) D
 clear G D
 go_wp2_with fail
 refine T.mono ?_
 rintro q u ⟨rfl,C⟩
 have W:=aG C
 clear C
 go_wp2_with fail
 refine(IC u).mono ?_
 rintro q s ⟨rfl,p⟩
 subst s
 go_wp2_with fail
 exact bodyPost_ret (v:=.tuple #[.slice none 0 0,.bool true]) (by simp[results,Tryz.results34,go_sem]) rfl ⟨rfl,J.trans ((L.trans (W.mono L.size)).mono J.size)⟩
section
theorem mF.pairs{y:Pg}{m:Ms}(h:mF w N B a b y m):Calls Tryz.prog 19 #[aF b] w (Rt w (.tuple #[.slice none 0 0,.bool true])):=by
 have C:=aG h.racesP
 clear h
 go_in
 go_wp2_with fail
 refine C.mono ?_
 rintro q X ⟨rfl,A⟩
 have D:=aG A
 clear A
 go_wp2_with fail
 refine wp_loop_rounds 1 ?_
 rw[rounds_succ]
 go_wp2_with fail
 exact bodyPost_ret (v:=.tuple #[.slice none 0 0,.bool true]) (by simp[results,Tryz.results19,go_sem]) rfl ⟨rfl,D⟩
theorem zo(w:World)(r:Value):Calls Tryz.prog 20 #[.slice none 0 0,r] w (Ru w (.bool true)):=by
 go_in
 go_wp2_with fail
 refine wp_loop_rounds 1 ?_
 rw[rounds_succ]
 go_wp2_with fail
 go_ret
 exact⟨rfl,rfl⟩
def pA(y:Pg)(m:Ms):List Nat->Option (List Ms)
 |[]=>some []
 |i::l=>match rC y m i with
  |none=>none
  |some o=>match pA y m l with
   |none=>none
   |some r=>some (o::r)
def uB(y:Pg):Nat->Nat->List Ms->Bool
 |0,_,_=>true
 |_+1,_,[]=>true
 |k+1,n,m::l=>
  let all:=m::l
  let q:=bif Nat.beq (n%3) 0 then all.length-1 else 0
  let x:=all.getD q m
  bif Dt y x&&Nat.ble all.length 3000 then
   match pA y x (wz y x)with
   |none=>false
   |some r=>uB y k (n+1) ((all.set q (all.getLastD m)).dropLast++r)
  else false
theorem wR{y:Pg}{m:Ms}:∀{l:List Nat} {r:List Ms},pA y m l=some r->r.length=l.length/\∀(j i:Nat),l[j]?=some i->∃o,rC y m i=some o/\r[j]?=some o:=by
 intro l
 induction l with
 |nil=>intro r h;cases h;exact⟨rfl,fun j i e=>by simp at e⟩
 |cons a l ih=>
  intro r h
  unfold pA at h
  split at h
  ·cases h
  ·rename_i o D
   split at h
   ·cases h
   ·rename_i G C
    cases h
    obtain⟨F,E⟩:=ih C
    refine⟨by simp[F],fun j i e=>?_⟩
    cases j with
    |zero=>simp at e;subst e;exact⟨o,D,rfl⟩
    |succ j=>simp at e;obtain⟨o',B,A⟩:=E j i e;exact⟨o',B,by simpa using A⟩
structure mC(w:World)(N B bF:Nat)(y:Pg)(v:Value)(bps:List Nat)(td:List Ms):Prop where
 row:w.ownsRow N 51 1 v td.length (du bps)
 len:bps.length=td.length
 at_:∀(k bp:Nat) m,bps[k]?=some bp->td[k]?=some m->mF w 0 B bF bp y m
section
variable {w w':World} {N B bF:Nat} {y:Pg} {v v':Value} {bps:List Nat} {td:List Ms}
theorem mF.typ{m:Ms}{S:Nat->Prop}(h:mF w 0 B bF a y m)(k:aC S w w')(G:∀b,S b->B<=b/\∃A,w.heap[b]?=some (.cells A 51 (0,0))):mF w' 0 B bF a y m:=by
 obtain⟨N,L,tv,E,D,F,K,J,M,R,C,Q⟩:=h.ex
 have P:¬S a:=fun e=>by obtain⟨-,A,q⟩:=G _ e;rw[K]at q;simp at q
 have O:¬S N:=fun e=>by obtain⟨-,A,q⟩:=G _ e;rw[J]at q;simp at q
 have H:∀b,S b->¬mV L tv E D b/\¬iM L.ob F b:=fun b e=>by
  obtain⟨-,A,q⟩:=G b e
  exact⟨C.mx.noT q (by decide) (by decide) (by decide) (by decide),C.od.noT q (by decide)⟩
 exact⟨N,L,tv,E,D,F,(k.block _ (aA K).lt P).trans K,(k.block _ (aA J).lt O).trans J,M,R,⟨C.mx.kept k (fun b e=>⟨by rw[M];exact(G b e).1,(H b e).1⟩),C.od.kept k (fun e=>(H _ e).2 (.inl rfl)) (fun x b e e'=>(H _ e').2 (.inr ⟨x,e⟩)),C.ap,C.ge⟩,Q⟩
theorem mC.below(h:mC w N B bF y v bps td)(k:Bw w w'):mC w' N B bF y v bps td:=⟨aP h.row k,h.len,fun i D m C A=>(h.at_ i D m C A).below k⟩
end
end
section
section
variable {w w4:World} {N B bF g n c q:Nat} {y:Pg} {v v4:Value} {bps:List Nat} {td:List Ms} {m0:Ms}
theorem kN{size n:Nat}{v:Value}{E:List Value}(h:w.ownsRow B e size v n E)(D:aT v b):B<=b/\∃A,w.heap[b]?=some (.cells A e (0,0)):=by
 rcases h.2 with⟨C,_⟩|⟨H,cap,G,C,F,hg,_⟩
 ·subst C;cases D
 ·subst C;cases D;exact⟨F,_,hg⟩
theorem Ez{D:List Value}(h:w.ownsRow B e 1 (.slice (some (Ad g 0)) (n+1) c) (n+1) D):w.ownsRow B e 1 (.slice (some (Ad g 0)) n c) n D.dropLast:=by
 rcases h.2 with⟨A,_⟩|⟨K,cap,C,A,E,hg,J,H,G,F⟩
 ·cases A
 ·cases A
  refine⟨by rw[List.length_dropLast,h.1];omega,.inr ⟨g,c,C,rfl,E,hg,by omega,H,G,?_⟩⟩
  rw[<-F,List.dropLast_eq_take,List.take_take,List.length_take]
  congr 1
  simp
  omega
theorem mC.pop(h:mC w N B bF y (.slice (some (Ad g 0)) (n+1) c) bps td)(F:td.length=n+1)(R:B<=N)(Q:q<=n)(L:bps[n]?=some a):mC (w.setCell ⟨g,q,none⟩ (aF a)) N B bF y (.slice (some (Ad g 0)) n c) (bps.set q a).dropLast (td.set q (td.getLastD m0)).dropLast:=by
 have E:=h.row
 rw[F]at E
 have K:=h.len
 obtain⟨J,G⟩:=E.stored q (aF a)
 have O:(du bps).set q (aF a)=du (bps.set q a):=by simp[du,List.map_set]
 have C:td[n]?=some (td.getLastD m0):=by
  rw[List.getLastD_eq_getLast?,List.getLast?_eq_getElem?,F]
  simp only[Nat.add_sub_cancel]
  rw[List.getElem?_eq_getElem (by omega)];rfl
 refine⟨?_,by simp[K],fun k P m A D=>?_⟩
 ·have:(td.set q (td.getLastD m0)).dropLast.length=n:=by simp[F]
  rw[this,show du (bps.set q a).dropLast=(du (bps.set q a)).dropLast by simp[du,List.map_dropLast],<-O]
  exact Ez J
 ·have H:aC (aT (.slice (some (Ad g 0)) (n+1) c)) w (w.setCell (Ad g q) (aF a)):=ef G (fun i e=>e)
  rw[List.getElem?_dropLast]at A D
  split at A
  ·rw[if_pos (by simp at *;omega)]at D
   have:mF w 0 B bF P y m:=by
    by_cases e:q=k
    ·subst e
     rw[List.getElem?_set_self (by omega)]at A D
     cases A;cases D
     exact h.at_ n _ _ L C
    ·rw[List.getElem?_set_ne e]at A D
     exact h.at_ k _ _ A D
   exact this.typ H (fun b e=>by obtain⟨S,M⟩:=kN E e;exact⟨by omega,M⟩)
  ·cases A
theorem mC.push{E:Ms}(h:mC w N B bF y v bps td)(O:B<=N)(H:w4.ownsRow N 51 1 v4 (td.length+1) (du bps++[aF a]))(hg:(w.alloc (.cells #[aF a] 51)).grownBy w4 v.ownBlock)(L:mF w 0 B bF a y E):mC w4 N B bF y v4 (bps++[a]) (td++[E]):=by
 have K:=h.len
 have kA:Bw w (w.alloc (.cells #[aF a] 51)):=ba _ _
 have G:=aP h.row kA
 have F:aC (aT v) (w.alloc (.cells #[aF a] 51)) w4:=ef hg (fun i e=>e)
 have T:∀{D m},mF w 0 B bF D y m->mF w4 0 B bF D y m:=fun J=>(J.below kA).typ F (fun b e=>by obtain⟨P,M⟩:=kN G e;exact⟨by omega,M⟩)
 refine⟨by rw[show du (bps++[a])=du bps++[aF a]by simp[du]];simpa using H,by simp[K],fun k D m C A=>?_⟩
 rcases fe C with C|⟨r1,rfl⟩
 ·have:=(List.getElem?_eq_some_iff.1 C).1
  rcases fe A with A|⟨r2,rfl⟩
  ·exact T (h.at_ k D m C A)
  ·omega
 ·rcases fe A with A|⟨r2,rfl⟩
  ·have:=(List.getElem?_eq_some_iff.1 A).1;omega
  ·exact T L
theorem vU:(Tryz.prog.info? 51).map (fun i=>(i.zero,i.size,i.bytes))=some (some (.pointer none),1,8):=by kernel_rfl
end
end
end Go.Proofs.YtajfbbldaiaolaaGreatDoor
