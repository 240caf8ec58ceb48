import Derived.Deep.LoopGhost
import Derived.Test.YtajfbbldaiaolaaGreatDoorQ03
set_option linter.unusedSimpArgs false
set_option linter.unusedVariables false
set_option maxRecDepth 100000
set_option maxHeartbeats 4000000
namespace Go.Proofs.YtajfbbldaiaolaaGreatDoor
open Go.RowKit Go.Maps
variable {L:List Nat}{a b c d e g i j k m n o q:Nat}{v y:Value}{w:World}
structure Jn(w:World)(bn news gos:Nat):Prop where
 c3:w.cell? ⟨bn,3,none⟩=some (.int .i64 news)
 c4:w.cell? ⟨bn,4,none⟩=some (.int .i64 gos)
 f3:w.frozen? ⟨bn,3,none⟩=false
 f4:w.frozen? ⟨bn,4,none⟩=false
 n6:news<=6
 g5:gos<=5
theorem tm{bn kind:Nat}(h:Jn w bn b c)(L:w.cell? (Ad a 2)=some (aB kind))(H:w.cell? (Ad a 8)=some (aB d))(A:a≠bn)(C:kind≠6)(B:kind≠7):
  Calls Tryz.prog 93 #[Pt bn 0,Pt a 0] w (Ru w (.tuple #[])):=by
 have K:=h.c3
 have J:=h.c4
 have G:=h.f3
 have F:=h.f4
 have D:=h.n6
 have E:=h.g5
 clear h
 have N:((kind:Int)==6)=false:=by rw[beq_eq_false_iff_ne];omega
 have M:((kind:Int)==7)=false:=by rw[beq_eq_false_iff_ne];omega
 go_in
 go_wp2_with fail
 first|go_end0|refine bodyPost_ret (results_none rfl _ _ _) rfl ?_
 exact⟨rfl,rfl⟩
theorem xt{bn kind:Nat}(h:Jn w bn b c)(L:w.cell? (Ad a 2)=some (aB kind))(H:w.cell? (Ad a 8)=some (aB d))(A:a≠bn)(B:kind=6)(D:b< 6):
  Calls Tryz.prog 93 #[Pt bn 0,Pt a 0] w fun r w'=>r=.returned (.tuple #[])/\w'=w.setCell ⟨bn,3,none⟩ (.int .i64 ((b:Int)+1)):=by
 have K:=h.c3
 have J:=h.c4
 have G:=h.f3
 have F:=h.f4
 have C:=h.n6
 have E:=h.g5
 clear h
 subst B
 go_in
 go_wp2_with fail
 first|go_end0|refine bodyPost_ret (results_none rfl _ _ _) rfl ?_
 exact⟨rfl,rfl⟩
theorem oL{bn kind:Nat}(h:Jn w bn b c)(P:w.cell? (Ad a 2)=some (aB kind))(M:w.cell? (Ad a 8)=some (aB d))(C:a≠bn)(E:kind=6)(D:b=6):
  Calls Tryz.prog 93 #[Pt bn 0,Pt a 0] w fun r w'=>dA w' r 8 d/\Below w.heap.size (w.setCell ⟨bn,3,none⟩ (.int .i64 7)) w':=by
 have O:=h.c3
 have N:=h.c4
 have L:=h.f3
 have K:=h.f4
 have H:=h.n6
 have J:=h.g5
 clear h
 subst E D
 go_in
 go_wp2_with fail
 refine(cO 8 d _).mono ?_
 rintro e G ⟨⟨F,rfl,B⟩,A⟩
 replace B:=aG B
 replace A:=aG A
 go_wp2_with fail
 exact⟨rfl,⟨F,rfl,B⟩,by simpa[World.setCell,Bw]using A.out⟩
theorem zN{bn kind:Nat}(h:Jn w bn b c)(L:w.cell? (Ad a 2)=some (aB kind))(H:w.cell? (Ad a 8)=some (aB d))(A:a≠bn)(B:kind=7)(D:c< 5):
  Calls Tryz.prog 93 #[Pt bn 0,Pt a 0] w fun r w'=>r=.returned (.tuple #[])/\w'=w.setCell ⟨bn,4,none⟩ (.int .i64 ((c:Int)+1)):=by
 have K:=h.c3
 have J:=h.c4
 have G:=h.f3
 have F:=h.f4
 have C:=h.n6
 have E:=h.g5
 clear h
 subst B
 go_in
 go_wp2_with fail
 first|go_end0|refine bodyPost_ret (results_none rfl _ _ _) rfl ?_
 exact⟨rfl,rfl⟩
theorem pU{bn kind:Nat}(h:Jn w bn b c)(P:w.cell? (Ad a 2)=some (aB kind))(M:w.cell? (Ad a 8)=some (aB d))(C:a≠bn)(E:kind=7)(D:c=5):
  Calls Tryz.prog 93 #[Pt bn 0,Pt a 0] w fun r w'=>dA w' r 8 d/\Below w.heap.size (w.setCell ⟨bn,4,none⟩ (.int .i64 6)) w':=by
 have O:=h.c3
 have N:=h.c4
 have L:=h.f3
 have K:=h.f4
 have H:=h.n6
 have J:=h.g5
 clear h
 subst E D
 go_in
 go_wp2_with fail
 refine(cO 8 d _).mono ?_
 rintro e G ⟨⟨F,rfl,B⟩,A⟩
 replace B:=aG B
 replace A:=aG A
 go_wp2_with fail
 exact⟨rfl,⟨F,rfl,B⟩,by simpa[World.setCell,Bw]using A.out⟩
structure Lc where
 g:aJ->Option Nat
 c:Nat
def iH(f:aJ->Option (Nat×Nat))(l:Lc)(t:aJ):Except Nat (Nat×Lc):=match f t with
 |some _=>.error 9
 |none=>match l.g t with
  |some m=>.ok (m,l)
  |none=>if l.c=6 then .error 8 else .ok (l.c,⟨fun s=>if s=t then some l.c else l.g s,l.c+1⟩)
structure Gu(bl:Nat)(w w':World)(b j:Nat)(v:Value):Prop where
 kp:aC (fun i=>i=bl\/i=b) w w'
 bk:∀A,aM w b A->j< A.size->aM w' b (A.setIfInBounds j v)
 hp:∀cur e,w.heap[b]?=some (.cells cur e (0,0))->w'.heap[b]?=some (.cells (cur.setIfInBounds j v) e (0,0))
theorem mW{bn:Nat}{f:aJ->Option (Nat×Nat)}{l l':Lc}{t:ByteArray}(N:NM w bn d n f)(h:kr w b o t a)(O:w.cell? (Ad j 1)=some (.map (some q)))(G:eP w q l.c l.g)(F:l.c<=6)(B:b≠q)(hp:iH f l t.data.toList=.ok (m,l')):
  Ca 132 #[Pt bn 0,Pt j 0,Pt b o] w fun r w'=>r=.returned (.tuple #[])/\Gu q w w' b (o+2) (aB m)/\eP w' q l'.c l'.g/\l'.c<=6:=by
 unfold iH at hp
 have C:b< w.heap.size:=aD h.t0
 cases D:f t.data.toList with
 |some x=>rw[D]at hp;cases hp
 |none=>
  rw[D]at hp
  simp only at hp
  cases hg:l.g t.data.toList with
  |some m'=>
   rw[hg]at hp
   cases hp
   refine(zL N h D O G hg).mono ?_
   rintro e w' ⟨rfl,rfl⟩
   have k:aC (fun i=>i=q\/i=b) w (me (w.setCell (Ad b (o+2)) (aB m))):=((((aC.refl (fun i=>i=q\/i=b) w).setCell (p:=Ad b (o+2)) (.inl (.inr rfl)) _).alloc _).drew).drew
   refine⟨rfl,⟨k,fun A K H=>((K.set (o+2) _ H).alloc _).below ((Below.refl _ _).drew.drew),fun L e J=>by rw[(((aC.refl (fun _=>False) (w.setCell (Ad b (o+2)) (aB m))).alloc _).drew.drew).block b (by simpa[World.setCell]using C) (fun e=>e)];exact heap_setCell J _ _⟩,?_,F⟩
   have P:aC (aK b) w (me (w.setCell (Ad b (o+2)) (aB m))):=((((aC.refl (aK b) w).setCell (p:=Ad b (o+2)) (.inl rfl) _).alloc _).drew).drew
   exact G.kept P (fun e=>B e.symm)
  |none=>
   rw[hg]at hp
   simp only at hp
   split at hp
   ·cases hp
   ·rename_i V
    cases hp
    refine(zM N h D O G hg (by omega)).mono ?_
    rintro e w' ⟨rfl,M,S,Q,rfl⟩
    have E:aC (fun i=>i=q) w M:=(((((aC.refl (fun i=>i=q) w).alloc _).drew).drew).drew).grown Q.grown (fun k R=>by cases R;exact .inl rfl)
    refine⟨rfl,⟨(E.mono (T:=fun i=>i=q\/i=b) (fun _ e=>.inl e)).setCell (p:=Ad b (o+2)) (.inl (.inr rfl)) _,fun A K H=>(K.kept E B).set (o+2) _ H,fun L e J=>heap_setCell (by rw[E.block b C B];exact J) _ _⟩,?_,by show l.c+1<=6;omega⟩
    exact S.kept ((aC.refl (aK b) M).set1 (o+2) _) (fun e=>B e.symm)
theorem lI{bn er:Nat}{f:aJ->Option (Nat×Nat)}{l:Lc}{t:ByteArray}(B:NM w bn d n f)(h:kr w b o t a)(D:w.cell? (Ad e 1)=some (.map (some i)))(C:eP w i l.c l.g)(hp:iH f l t.data.toList=.error er):
  Ca 132 #[Pt bn 0,Pt e 0,Pt b o] w fun r w'=>dA w' r er a/\Bw w w':=by
 unfold iH at hp
 cases A:f t.data.toList with
 |some x=>rw[A]at hp;cases hp;exact pT B h A
 |none=>
  rw[A]at hp
  simp only at hp
  cases hg:l.g t.data.toList with
  |some m'=>rw[hg]at hp;cases hp
  |none=>
   rw[hg]at hp
   simp only at hp
   split at hp
   ·rename_i E
    cases hp
    rw[E]at C
    exact xr B h A D C hg
   ·cases hp
theorem NM.below{w':World}{bn:Nat}{f:aJ->Option (Nat×Nat)}(h:NM w bn b n f)(k:Bw w w'):NM w' bn b n f:=
 ⟨by rw[k.cell (p:=Ad bn 1) (aD (a:=(Ad bn 1)) h.c1)];exact h.c1,h.th.kept (aC.of_below (S:=fun _=>False) k) (fun e=>e)⟩
theorem aM.nmLeft{p:Ph}{sr sb:Value}(h:aM w a (bK p sr sb))(A:p.lt.length<=1000000):kr w a 3 ⟨p.lt.toArray⟩ p.la:=⟨h.cell 3,h.cell 4,⟨p.ln,h.cell 5⟩,h.fz 5,A⟩
def gy(f:aJ->Option (Nat×Nat))(l:Lc)(p:Ph):Except Nat (Ph×Lc):=
 if p.lt=[]then .ok (p,l)
 else match(if p.kind=1/\p.op=0 then dK f p.lt 0 else none)with
  |some m=>.ok ({p with ln:=m,kind:=3},l)
  |none=>match iH f l p.lt with
   |.error e=>.error e
   |.ok (m,l')=>.ok ({p with ln:=m},l')
structure Mj(bl:Nat)(w w':World)(bs:Nat)(p:Ph)(sr sb:Value)(l:Lc):Prop where
 kp:aC (fun i=>i=bl\/i=bs) w w'
 st:aM w' bs (bK p sr sb)
 lc:eP w' bl l.c l.g
 le:l.c<=6
theorem Co{bn h:Nat}{f:aJ->Option (Nat×Nat)}{l:Lc}{p:Ph}{sr sb:Value}(hn:NM w bn b n f)(y:aM w k (bK p sr sb))(hz:p.lt.length<=1000000)(hc:w.cell? (Ad d 1)=some (.map (some h)))(hl:eP w h l.c l.g)(L:l.c<=6)(T:k≠h):
  Calls Tryz.prog 92 #[Pt bn 0,Pt d 0,Pt k 0] w fun r w'=>(∃p' l',gy f l p=.ok (p',l')/\r=.returned (.tuple #[])/\Mj h w w' k p' sr sb l')\/(∃e,gy f l p=.error e/\dA w' r e p.la/\Bw w w'):=by
 obtain⟨s,z,HL,HC⟩:=fK hn y hl hc
 have c2:Ce w k 2 (aB p.kind):=y.cell 2
 have c6:Ce w k 6 (aB p.op):=y.cell 6
 have c3:Ce w k 3 (.string ⟨p.lt.toArray⟩):=y.cell 3
 have HP:=aG (gZ c2 c6)
 have a1:Hid (gy f l p=if p.lt=[]then .ok (p,l)else match(if p.kind=1/\p.op=0 then dK f p.lt 0 else none)with|some m=>.ok ({p with ln:=m,kind:=3},l)|none=>match iH f l p.lt with|.error e=>.error e|.ok (m,l')=>.ok ({p with ln:=m},l')):=rfl
 clear hn y hl hc
 rcases C:p.lt with _|⟨ch,v⟩
 ·have J:Hid (gy f l p=.ok (p,l)):=by show _=_;rw[a1.out,if_pos C]
  rw[C]at c3
  replace C:=aG C
  go_in
  go_wp2_with fail
  first|go_end0|refine bodyPost_ret (results_none rfl _ _ _) rfl ?_
  exact .inl ⟨p,l,J,rfl,aC.refl _ _,z,HL,L⟩
 ·have F:¬p.lt=[]:=by rw[C];simp
  have Z:Hid (gy f l p=match(if p.kind=1/\p.op=0 then dK f p.lt 0 else none)with|some m=>.ok ({p with ln:=m,kind:=3},l)|none=>match iH f l p.lt with|.error e=>.error e|.ok (m,l')=>.ok ({p with ln:=m},l')):=by show _=_;rw[a1.out,if_neg F]
  have a4:w.cell? (Ad k 3)=some (.string ⟨(ch::v:aJ).toArray⟩):=by rw[<-C];exact c3
  have Q:=aG (z.nmLeft hz)
  clear c3
  replace C:=aG C
  replace F:=aG F
  by_cases B:p.kind=1/\p.op=0
  ·have P:Hid ((p.kind==1&&p.op==0)=true):=by show _=_;simp[B.1,B.2]
   cases E:dK f p.lt 0 with
   |some m=>
    have J:Hid (gy f l p=.ok ({p with ln:=m,kind:=3},l)):=by show _=_;rw[Z.out,if_pos B,E]
    have Y:Hid (dK f p.lt 0=some m):=E
    clear E B
    go_in
    go_wp2_with fail
    refine HP.mono ?_
    rintro e t ⟨rfl,hq⟩
    subst t
    rw[P.out]
    go_wp2_with fail
    refine(rQ s Q Y).mono ?_
    rintro e q ⟨rfl,u,M,rfl⟩
    have N:=(z.below M).set 5 (aB m) (show 5< 14 by decide)
    obtain⟨a3,o⟩:=aN N M
    have d2:Ce (u.setCell (Ad k (3+2)) (aB m)) k 2 (aB p.kind):=N.cell 2
    have df:∀j,(u.setCell (Ad k (3+2)) (aB m)).frozen? (Ad k j)=false:=N.fz
    clear M N
    generalize R:u.setCell (Ad k (3+2)) (aB m)=q at *
    replace R:=aG R
    go_wp2_with fail
    first|go_end0|refine bodyPost_ret (results_none rfl _ _ _) rfl ?_
    have k0:aC (aK k) w q:=by rw[<-R.out];exact(aC.of_below (S:=aK k) o).set1 5 _
    have k3:=k0.set1 2 (aB 3)
    exact .inl ⟨_,_,J,rfl,k3.mono (fun _ e=>.inr e),a3.set 2 _ (show 2< 14 by decide),HL.kept k3 (fun e=>T e.symm),L⟩
   |none=>
    have K:Hid (gy f l p=match iH f l p.lt with|.error e=>.error e|.ok (m,l')=>.ok ({p with ln:=m},l')):=by show _=_;rw[Z.out,if_pos B,E]
    have Y:Hid (dK f p.lt 0=none):=E
    clear E B
    go_in
    go_wp2_with fail
    refine HP.mono ?_
    rintro e t ⟨rfl,hq⟩
    subst t
    rw[P.out]
    go_wp2_with fail
    refine(vo s Q Y).mono ?_
    rintro e u ⟨rfl,M⟩
    obtain⟨o,X⟩:=aN M (z.below M)
    have a2:Hid (u.cell? (Ad d 1)=some (.map (some h))):=by show _=_;rw[M.cell (p:=Ad d 1) (aD (a:=(Ad d 1)) HC.out)];exact HC
    have a0:=aG (HL.kept (aC.of_below (S:=fun _=>False) M) (fun e=>e))
    clear M
    go_wp2_with fail
    cases A:iH f l p.lt with
    |error er=>
     have J:Hid (gy f l p=.error er):=by show _=_;rw[K.out,A]
     have D:Hid (iH f l p.lt=.error er):=A
     clear A
     refine(lI (s.below o) (X.nmLeft hz) a2 a0 D).mono ?_
     rintro e q ⟨⟨b2,rfl,W⟩,V⟩
     replace W:=aG W
     replace V:=aG V
     go_wp2_with fail
     exact⟨rfl,.inr ⟨er,J,⟨b2,rfl,W⟩,o.trans (V.mono o.size)⟩⟩
    |ok ml=>
     obtain⟨m,l'⟩:=ml
     have J:Hid (gy f l p=.ok ({p with ln:=m},l')):=by show _=_;rw[K.out,A]
     have D:Hid (iH f l p.lt=.ok (m,l')):=A
     clear A
     refine(mW (s.below o) (X.nmLeft hz) a2 a0 L T D).mono ?_
     rintro e q ⟨rfl,x,G,H⟩
     have O:=aG (And.intro x (And.intro G H))
     clear x G H
     go_wp2_with fail
     first|go_end0|refine bodyPost_ret (results_none rfl _ _ _) rfl ?_
     exact .inl ⟨_,_,J,rfl,(aC.of_below (S:=fun i=>i=h\/i=k) o).trans O.1.kp,O.1.bk _ X (show 5< 14 by decide),O.2.1,O.2.2⟩
  ·have P:Hid ((p.kind==1&&p.op==0)=false):=by show _=_;rw[Bool.eq_false_iff];intro e;simp at e;exact B e
   have K:Hid (gy f l p=match iH f l p.lt with|.error e=>.error e|.ok (m,l')=>.ok ({p with ln:=m},l')):=by show _=_;rw[Z.out,if_neg B]
   clear B
   go_in
   go_wp2_with fail
   refine HP.mono ?_
   rintro e t ⟨rfl,hq⟩
   subst t
   rw[P.out]
   go_wp2_with fail
   cases A:iH f l p.lt with
   |error er=>
    have J:Hid (gy f l p=.error er):=by show _=_;rw[K.out,A]
    have D:Hid (iH f l p.lt=.error er):=A
    clear A
    refine(lI s Q HC HL D).mono ?_
    rintro e q ⟨⟨b2,rfl,W⟩,V⟩
    replace W:=aG W
    replace V:=aG V
    go_wp2_with fail
    exact⟨rfl,.inr ⟨er,J,⟨b2,rfl,W⟩,V⟩⟩
   |ok ml=>
    obtain⟨m,l'⟩:=ml
    have J:Hid (gy f l p=.ok ({p with ln:=m},l')):=by show _=_;rw[K.out,A]
    have D:Hid (iH f l p.lt=.ok (m,l')):=A
    clear A
    refine(mW s Q HC HL L T D).mono ?_
    rintro e q ⟨rfl,x,G,H⟩
    have O:=aG (And.intro x (And.intro G H))
    clear x G H
    go_wp2_with fail
    first|go_end0|refine bodyPost_ret (results_none rfl _ _ _) rfl ?_
    exact .inl ⟨_,_,J,rfl,O.1.kp,O.1.bk _ z (show 5< 14 by decide),O.2.1,O.2.2⟩
structure Mm(w:World)(Q:Nat->Prop)(bn:Nat)(np:List Nat):Prop where
 ex:∃pf cf,w.cell? ⟨bn,2,none⟩=some (.slice pf np.length cf)/\∀m k,np[m]?=some k->∃gf bf bd pp cp,Q gf/\Q bf/\Q bd/\pf=some ⟨gf,0,none⟩/\w.cell? ⟨gf,m,none⟩=some (aF bf)/\w.cell? ⟨bf,0,none⟩=some (aF bd)/\w.cell? ⟨bd,4,none⟩=some (.slice pp k cp)
def gm(f:aJ->Option (Nat×Nat))(np:List Nat)(rl:Nat)(p:Ph):Except Nat Ph:=
 if p.kind=9\/p.kind=10 then(match dK f p.nt 1 with|some m=>.ok {p with nn:=m}|none=>.error 9)
 else if p.kind=7\/p.kind=11 then(match dK f p.nt 2 with|some m=>if np[m]?=some rl then .ok {p with nn:=m}else .error 10|none=>.error 9)
 else .ok p
theorem aM.nmNamed{p:Ph}{sr sb:Value}(h:aM w a (bK p sr sb))(A:p.nt.length<=1000000):kr w a 9 ⟨p.nt.toArray⟩ p.na:=⟨h.cell 9,h.cell 10,⟨p.nn,h.cell 11⟩,h.fz 11,A⟩
theorem xo{bn:Nat}{f:aJ->Option (Nat×Nat)}{np:List Nat}{Q:Nat->Prop}{p:Ph}{s:Option Addr}{sb:Value}(v:NM w bn a n f)(G:Mm w Q bn np)(O:aM w b (bK p (.slice s c d) sb))(hz:p.nt.length<=1000000)(N:p.kind=7\/p.kind=11)(K:dK f p.nt 2=some m)(F:np[m]?=some k)(R:b≠bn)(a6:m<=1000000)(a5:np.length<=1000000)(M:¬Q b):
  Calls Tryz.prog 94 #[Pt bn 0,Pt b 0] w fun r w'=>∃A,Bw w A/\((k=c/\r=.returned (.tuple #[])/\w'=(A.setCell ⟨b,9+2,none⟩ (.int .i64 m)).drew)\/(k≠c/\dA w' r 10 p.na/\Below w.heap.size ((A.setCell ⟨b,9+2,none⟩ (.int .i64 m)).drew) w')):=by
 obtain⟨HN,HS⟩:=aN v O
 have c2:Ce w b 2 (aB p.kind):=O.cell 2
 obtain⟨X,Z,Y⟩:=bY (O.nmNamed hz) K G
 obtain⟨pf,cf,g0,z⟩:=G.ex
 obtain⟨gf,W,bd,pp,cp,q,o,l,rfl,g1,g2,g3⟩:=z m k F
 have y:m< np.length:=(List.getElem?_eq_some_iff.1 F).1
 have n1:gf≠b:=fun e=>M (e▸q)
 have n2:W≠b:=fun e=>M (e▸o)
 have n3:bd≠b:=fun e=>M (e▸l)
 have P:=aG (And.intro g0 (And.intro g1 (And.intro g2 g3)))
 clear v O K G z g0 g1 g2 g3 Y M q o l F
 rcases N with N|N
 all_goals
  rw[N]at c2
  go_in
  go_wp2_with fail
  refine(rM (kind:=2) HN X Z).mono ?_
  rintro e i ⟨rfl,A,L,rfl⟩
  have B:=(HS.below L).set 11 (aB m) (show 11< 14 by decide)
  have HB:=aG L
  have J:∀(x j:Nat) (u:Value),x≠b->Ce w x j u->(A.setCell (Ad b (9+2)) (aB m)).cell? (Ad x j)=some u:=fun x j u hx t=>by
   rw[World.cell?_setCell_other _ _ _ _ (by intro e;cases e;exact hx rfl),L.cell (p:=Ad x j) (aD t)];exact t
  have y0:=J bn 2 _ R.symm P.1
  have y1:=J gf m _ n1 P.2.1
  have a3:(A.setCell (Ad b (9+2)) (aB m)).cell? (Ad gf (m*1))=some (aF W):=by rw[Nat.mul_one];exact y1
  have y2:=J W 0 _ n2 P.2.2.1
  have y3:=J bd 4 _ n3 P.2.2.2
  have a1:Ce (A.setCell (Ad b (9+2)) (aB m)) b 11 (aB m):=B.cell 11
  have g:Ce (A.setCell (Ad b (9+2)) (aB m)) b (9+2) (aB m):=B.cell 11
  have a0:Ce (A.setCell (Ad b (9+2)) (aB m)) b 12 (.slice s c d):=B.cell 12
  have a2:Ce (A.setCell (Ad b (9+2)) (aB m)) b 10 (aB p.na):=B.cell 10
  have h:Ce (A.setCell (Ad b (9+2)) (aB m)) b (9+1) (aB p.na):=B.cell 10
  have a4:w.heap.size<=A.heap.size:=L.size
  have E:(A.setCell (Ad b (9+2)) (aB m)).heap.size=A.heap.size:=by simp[World.setCell]
  replace E:=aG E
  clear L B J
  generalize C:A.setCell (Ad b (9+2)) (aB m)=i at *
  replace C:=aG C
  by_cases D:k=c
  ·have S:((k:Int)!=(c:Int))=false:=by rw[bne_eq_false_iff_eq];omega
   have H:=aG D
   clear D
   go_wp2_with fail
   go_region
   all_goals
    go_wp2_with fail
    first|go_end0|refine bodyPost_ret (results_none rfl _ _ _) rfl ?_
    exact⟨A,HB,.inl ⟨H,rfl,by rw[C.out]⟩⟩
  ·have S:((k:Int)!=(c:Int))=true:=by rw[bne_iff_ne];omega
   have H:=aG D
   clear D
   go_wp2_with fail
   go_region
   all_goals
    go_wp2_with fail
    refine(cO 10 p.na _).mono ?_
    rintro e w3 ⟨⟨b2,rfl,V⟩,T⟩
    replace V:=aG V
    replace T:=aG T
    go_wp2_with fail
    refine⟨rfl,A,HB,.inr ⟨H,⟨b2,rfl,V⟩,?_⟩⟩
    rw[C.out]
    exact T.mono (by show w.heap.size<=i.heap.size;have:=E.out;omega)
theorem xn{bn:Nat}{f:aJ->Option (Nat×Nat)}{p:Ph}{sr sb:Value}(H:NM w bn a n f)(D:aM w b (bK p sr sb))(L:p.nt.length<=1000000)(C:p.kind=9\/p.kind=10)(A:dK f p.nt 1=some m):
  Calls Tryz.prog 94 #[Pt bn 0,Pt b 0] w fun r w'=>r=.returned (.tuple #[])/\∃B,Bw w B/\w'=B.setCell ⟨b,9+2,none⟩ (.int .i64 m):=by
 obtain⟨N,E⟩:=aN H (D.nmNamed L)
 have M:Ce w b 2 (aB p.kind):=D.cell 2
 have F:=aG A
 clear H D A
 rcases C with C|C
 all_goals
  rw[C]at M
  go_in
  go_wp2_with fail
  refine(rM (kind:=1) N E F).mono ?_
  rintro e O ⟨rfl,B,J,G⟩
  have K:=aG (And.intro J G)
  clear J G
  go_wp2_with fail
  first|go_end0|refine bodyPost_ret (results_none rfl _ _ _) rfl ?_
  exact⟨rfl,B,K.1,K.2⟩
theorem ti{bn:Nat}{f:aJ->Option (Nat×Nat)}{p:Ph}{sr sb:Value}(H:NM w bn a n f)(C:aM w b (bK p sr sb))(J:p.nt.length<=1000000)(B:p.kind=9\/p.kind=10)(A:dK f p.nt 1=none):
  Calls Tryz.prog 94 #[Pt bn 0,Pt b 0] w fun r w'=>dA w' r 9 p.na/\Bw w w':=by
 obtain⟨M,F⟩:=aN H (C.nmNamed J)
 have K:Ce w b 2 (aB p.kind):=C.cell 2
 have G:=aG A
 clear H C A
 rcases B with B|B
 all_goals
  rw[B]at K
  go_in
  go_wp2_with fail
  refine(vh (kind:=1) M F G).mono ?_
  rintro e N ⟨⟨L,rfl,E⟩,D⟩
  replace E:=aG E
  replace D:=aG D
  go_wp2_with fail
  exact⟨rfl,⟨L,rfl,E⟩,D⟩
theorem tj{bn:Nat}{f:aJ->Option (Nat×Nat)}{p:Ph}{sr sb:Value}(H:NM w bn a n f)(C:aM w b (bK p sr sb))(J:p.nt.length<=1000000)(B:p.kind=7\/p.kind=11)(A:dK f p.nt 2=none):
  Calls Tryz.prog 94 #[Pt bn 0,Pt b 0] w fun r w'=>dA w' r 9 p.na/\Bw w w':=by
 obtain⟨M,F⟩:=aN H (C.nmNamed J)
 have K:Ce w b 2 (aB p.kind):=C.cell 2
 have G:=aG A
 clear H C A
 rcases B with B|B
 all_goals
  rw[B]at K
  go_in
  go_wp2_with fail
  refine(vh (kind:=2) M F G).mono ?_
  rintro e N ⟨⟨L,rfl,E⟩,D⟩
  replace E:=aG E
  replace D:=aG D
  go_wp2_with fail
  exact⟨rfl,⟨L,rfl,E⟩,D⟩
theorem vc{bn:Nat}{f:aJ->Option (Nat×Nat)}{p:Ph}{sr sb:Value}(B:NM w bn a n f)(A:aM w b (bK p sr sb))(C:p.nt.length<=1000000)(G:p.kind≠9/\p.kind≠10/\p.kind≠7/\p.kind≠11):
  Calls Tryz.prog 94 #[Pt bn 0,Pt b 0] w (Ru w (.tuple #[])):=by
 obtain⟨L,F⟩:=aN B (A.nmNamed C)
 have H:Ce w b 2 (aB p.kind):=A.cell 2
 have J:((p.kind:Int)==9)=false:=by rw[beq_eq_false_iff_ne];omega
 have E:((p.kind:Int)==10)=false:=by rw[beq_eq_false_iff_ne];omega
 have K:((p.kind:Int)==7)=false:=by rw[beq_eq_false_iff_ne];omega
 have D:((p.kind:Int)==11)=false:=by rw[beq_eq_false_iff_ne];omega
 clear B A
 go_in
 go_wp2_with fail
 first|go_end0|refine bodyPost_ret (results_none rfl _ _ _) rfl ?_
 exact⟨rfl,rfl⟩
theorem sW{w':World}{B size:Nat}{p:Option Addr}{E:List Value}{u:Value}(h:w.ownsRow B e size (.slice p n c) n E)(hg:p=some (Ad g 0))(Q:j< n*size)(F:∀A,w.heap[g]?=some (.cells A e (0,0))->w'.heap[g]?=some (.cells (A.setIfInBounds j u) e (0,0))):w'.ownsRow B e size (.slice p n c) n (E.set j u):=by
 refine⟨by rw[List.length_set];exact h.1,?_⟩
 rcases h.2 with⟨P,O⟩|⟨R,cap,A,G,J,H,N,M,L,K⟩
 ·subst O;omega
 ·cases G
  cases hg
  refine .inr ⟨g,c,A.setIfInBounds j u,rfl,J,F A H,N,M,by simpa using L,?_⟩
  rw[<-K,Array.toList_setIfInBounds]
  apply List.ext_getElem?
  intro i
  by_cases D:i< n*size
  ·by_cases e:i=j
   ·subst e
    by_cases C:i< A.toList.length
    ·rw[List.getElem?_take_of_lt D,List.getElem?_set_self C,List.getElem?_set_self (by simp at C⊢;omega)]
    ·rw[List.getElem?_take_of_lt D,List.getElem?_eq_none (by simp at C⊢;omega),List.getElem?_eq_none (by simp at C⊢;omega)]
   ·rw[List.getElem?_take_of_lt D,List.getElem?_set_ne (Ne.symm e),List.getElem?_set_ne (Ne.symm e),List.getElem?_take_of_lt D]
  ·rw[List.getElem?_eq_none (by simp;omega),List.getElem?_eq_none (by simp;omega)]
def eC(f:aJ->Option (Nat×Nat)):Lc->List Pa->Except (Nat×Nat) (List Pa×Lc)
 |l,[]=>.ok ([],l)
 |l,a::r=>if a.text=[]then(match eC f l r with|.ok (r',l')=>.ok (a::r',l')|.error e=>.error e)
  else match iH f l a.text with
   |.error e=>.error (e,a.at_)
   |.ok (m,l1)=>match eC f l1 r with|.ok (r',l')=>.ok ({a with num:=m}::r',l')|.error e=>.error e
theorem uR(r1 r2:List Pa)(a:Pa)(m:Nat):(eF (r1++a::r2)).set (r1.length*4+2) (aB m)=eF (r1++{a with num:=m}::r2):=by
 rw[kK,kK,List.set_append_right _ _ (by rw[mR];omega),mR]
 have:r1.length*4+2-r1.length*4=2:=by omega
 rw[this]
 rfl
structure RI(w wr:World)(bn bm n bf bl bs gr cr:Nat)(f:aJ->Option (Nat×Nat))(p:Ph)(sb:Value)(l0 l:Lc)(r r1 r2:List Pa):Prop where
 nm:NM wr bn bm n f
 hc:wr.cell? ⟨bf,1,none⟩=some (.map (some bl))
 lc:eP wr bl l.c l.g
 le:l.c<=6
 st:aM wr bs (bK p (.slice (some ⟨gr,0,none⟩) r.length cr) sb)
 row:wr.ownsRow 0 258 4 (.slice (some ⟨gr,0,none⟩) r.length cr) r.length (eF (r1++r2))
 kp:aC (fun i=>i=bl\/i=gr) w wr
 eq:eC f l0 r=match eC f l r2 with|.ok (r',l')=>.ok (r1++r',l')|.error e=>.error e
 len:r1.length+r2.length=r.length
structure si(bn bm bf bl bs gr:Nat):Prop where
 a1:gr≠bl
 a2:bs≠gr
 a3:bs≠bl
 a4:bn≠gr
 a5:bn≠bl
 a6:bm≠gr
 a7:bm≠bl
 a8:bf≠gr
 a9:bf≠bl
theorem RI.step{wr w':World}{bn:Nat}{f:aJ->Option (Nat×Nat)}{p:Ph}{sb:Value}{E l l':Lc}{r r1 r2:List Pa}{a:Pa}(h:RI w wr bn b n d i k o q f p sb E l r r1 (a::r2))(ap:si bn b d i k o)(G:a.text≠[])(hp:iH f l a.text=.ok (m,l'))(A:Gu i wr w' o (r1.length*4+2) (aB m))(H:eP w' i l'.c l'.g)(C:l'.c<=6):
  RI w w' bn b n d i k o q f p sb E l' r (r1++[{a with num:=m}]) r2:=by
 have B:=h.len
 simp at B
 refine⟨⟨?_,?_⟩,?_,H,C,?_,?_,?_,?_,by simp;omega⟩
 ·rw[A.kp.cell (p:=Ad bn 1) (aD (a:=(Ad bn 1)) h.nm.c1) (fun e=>e.elim ap.a5 ap.a4)];exact h.nm.c1
 ·exact h.nm.th.kept A.kp (fun e=>e.elim ap.a7 ap.a6)
 ·rw[A.kp.cell (p:=Ad d 1) (aD (a:=(Ad d 1)) h.hc) (fun e=>e.elim ap.a9 ap.a8)];exact h.hc
 ·exact h.st.kept A.kp (fun e=>e.elim ap.a3 ap.a2)
 ·have:=sW h.row rfl (j:=r1.length*4+2) (u:=aB m) (by omega) (fun D J=>A.hp D _ J)
  rw[uR]at this
  simpa using this
 ·exact h.kp.trans A.kp
 ·rw[h.eq,eC,if_neg G,hp]
  simp only
  cases L:eC f l' r2 with
  |error e=>rfl
  |ok x=>obtain⟨K,F⟩:=x;simp
theorem RI.skip{wr:World}{bn:Nat}{f:aJ->Option (Nat×Nat)}{p:Ph}{sb:Value}{B l:Lc}{r r1 r2:List Pa}{a:Pa}(h:RI w wr bn b n c d g i j f p sb B l r r1 (a::r2))(D:a.text=[]):RI w wr bn b n c d g i j f p sb B l r (r1++[a]) r2:=by
 have A:=h.len
 simp at A
 refine⟨h.nm,h.hc,h.lc,h.le,h.st,by simpa using h.row,h.kp,?_,by simp;omega⟩
 rw[h.eq,eC,if_pos D]
 cases eC f l r2 with
 |error e=>rfl
 |ok x=>obtain⟨E,C⟩:=x;simp
theorem RI.name{wr:World}{bn:Nat}{f:aJ->Option (Nat×Nat)}{p:Ph}{sb:Value}{C l:Lc}{r r1 r2:List Pa}{a:Pa}(h:RI w wr bn b n c d e g i f p sb C l r r1 (a::r2))(D:a.text.length<=1000000):kr wr g (r1.length*4) ⟨a.text.toArray⟩ a.at_:=by
 have A:=h.len
 simp at A
 have B:∀j,j< 4->wr.cell? (Ad g (r1.length*4+j))=(oK a)[j]?:=fun j F=>by rw[h.row.cellAt _ (by omega)];exact yJ r1 r2 a j F
 refine⟨B 0 (by decide),B 1 (by decide),⟨a.num,B 2 (by decide)⟩,?_,D⟩
 rcases h.row.2 with⟨_,K⟩|⟨L,cap,H,E,J,G,_⟩
 ·omega
 ·cases E
  rw[World.frozen?]
  simp[G]
theorem zl{bn:Nat}{f:aJ->Option (Nat×Nat)}{p:Ph}{sb:Value}{D:Lc}{r:List Pa}(h:RI w w bn b n c d g j o f p sb D D r [] r)(ap:si bn b c d g j)(L:¬(p.kind=1/\p.op=0))(u:∀a,a∈r->a.text.length<=1000000)(a2:r.length<=1000000):
  Calls Tryz.prog 95 #[Pt bn 0,Pt c 0,Pt g 0] w fun t w'=>(∃r2 l',eC f D r=.ok (r2,l')/\t=.returned (.tuple #[])/\RI w w' bn b n c d g j o f p sb D l' r r2 [])\/(∃e a,eC f D r=.error (e,a)/\dA w' t e a/\aC (fun i=>i=d\/i=j) w w'):=by
 obtain⟨HI,S,HZ⟩:=bY h ap u
 have z:Ce w g 2 (aB p.kind):=h.st.cell 2
 have y:Ce w g 6 (aB p.op):=h.st.cell 6
 have O:Ce w g 12 (.slice (some (Ad j 0)) r.length o):=h.st.cell 12
 have HP:=aG (gZ z y)
 have s:Hid ((p.kind==1&&p.op==0)=false):=by show _=_;rw[Bool.eq_false_iff];intro e;simp at e;exact L e
 clear h ap u L
 go_in
 go_wp2_with fail
 refine HP.mono ?_
 rintro e wq ⟨rfl,hq⟩
 subst wq
 rw[s.out]
 go_wp2_with fail
 clear z y O
 go_loopw [28] (fun i wr=>∃(k:Nat) (l:Lc) (r1 r2:List Pa),k=r1.length/\i=aB k/\Hid (RI w wr bn b n c d g j o f p sb D l r r1 r2)/\Hid (∀a,a∈r2->a.text.length<=1000000)) (fun i _=>r.length-(intOf i).toNat)
 case atStart=>exact⟨0,D,[],r,rfl,rfl,HI,HZ⟩
 case round=>
  obtain⟨k,l,r1,r2,hk,rfl,B,Q⟩:=hrel
  have G:=B.len
  have O:Ce wr g 12 (.slice (some (Ad j 0)) r.length o):=B.st.cell 12
  rcases r2 with _|⟨a,r2⟩
  ·have W:¬((k:Int)< (r.length:Int)):=by simp at G;omega
   have J:Hid (eC f D r=.ok (r1,l)):=by show _=_;rw[B.out.eq,eC];simp
   go_wp2_with fail
   first|go_end0|refine bodyPost_ret (results_none rfl _ _ _) rfl ?_
   exact .inl ⟨r1,l,J,rfl,B⟩
  ·have W:(k:Int)< (r.length:Int):=by simp at G;omega
   have a4:k< r.length:=by omega
   have V:a.text.length<=1000000:=Q a (by simp)
   have P:Hid (∀x,x∈r2->x.text.length<=1000000):=fun x hx=>Q x (by simp[hx])
   have H:=aG (B.name V)
   subst hk
   have T:=H.t0
   have a3:r1.length<=1000000:=by omega
   rcases A:a.text with _|⟨ch,K⟩
   ·have q:=aG (B.skip A)
    rw[A]at T
    replace A:=aG A
    go_wp2_with fail
    go_roundw
    case rel=>exact⟨r1.length+1,l,r1++[a],r2,by simp,by go_num,q,P⟩
    case measure=>simp[intOf];omega
   ·have F:a.text≠[]:=by rw[A];simp
    have a0:wr.cell? (Ad j (r1.length*4))=some (.string ⟨(ch::K:aJ).toArray⟩):=by rw[<-A];exact T
    have R:=aG F
    clear T F
    replace A:=aG A
    cases C:iH f l a.text with
    |error er=>
     have E:Hid (iH f l a.text=.error er):=C
     have J:Hid (eC f D r=.error (er,a.at_)):=by show _=_;rw[B.out.eq,eC,if_neg R.out,C]
     clear C
     go_wp2_with fail
     refine(lI B.nm H B.hc B.lc E).mono ?_
     rintro e w2 ⟨⟨b2,rfl,Y⟩,X⟩
     replace Y:=aG Y
     replace X:=aG X
     go_wp2_with fail
     exact⟨rfl,.inr ⟨er,a.at_,J,⟨b2,rfl,Y⟩,B.kp.below X⟩⟩
    |ok ml=>
     obtain⟨m,l'⟩:=ml
     have E:Hid (iH f l a.text=.ok (m,l')):=C
     clear C
     go_wp2_with fail
     refine(mW B.nm H B.hc B.lc B.le S.a1 E).mono ?_
     rintro e w2 ⟨rfl,v,M,N⟩
     have Z:=aG (B.step S R E v M N)
     clear v M N
     go_wp2_with fail
     go_roundw
     case rel=>exact⟨r1.length+1,l',r1++[{a with num:=m}],r2,by simp,by go_num,Z,P⟩
     case measure=>simp[intOf];omega
theorem RI.below{wr w':World}{bn:Nat}{f:aJ->Option (Nat×Nat)}{p:Ph}{sb:Value}{A l:Lc}{r r1 r2:List Pa}(h:RI w wr bn b n c d g i j f p sb A l r r1 r2)(k:Bw wr w'):RI w w' bn b n c d g i j f p sb A l r r1 r2:=
 ⟨h.nm.below k,by rw[k.cell (p:=Ad c 1) (aD (a:=(Ad c 1)) h.hc)];exact h.hc,h.lc.kept (aC.of_below (S:=fun _=>False) k) (fun e=>e),h.le,h.st.below k,aP h.row k,h.kp.below k,h.eq,h.len⟩
theorem uJ{bn:Nat}{f:aJ->Option (Nat×Nat)}{p:Ph}{sb:Value}{C:Lc}{r:List Pa}(h:RI w w bn b n c d g j o f p sb C C r [] r)(ap:si bn b c d g j)(J:p.kind=1/\p.op=0){a0:Pa}{rr:List Pa}(E:r=a0::rr)(P:dK f a0.text 0=none)(q:∀a,a∈r->a.text.length<=1000000)(a7:r.length<=1000000):
  Calls Tryz.prog 95 #[Pt bn 0,Pt c 0,Pt g 0] w fun r' w'=>(∃r2 l',eC f C r=.ok (r2,l')/\r'=.returned (.tuple #[])/\RI w w' bn b n c d g j o f p sb C l' r r2 [])\/(∃e a,eC f C r=.error (e,a)/\dA w' r' e a/\aC (fun i=>i=d\/i=j) w w'):=by
 obtain⟨HI,X,HZ⟩:=bY h ap q
 have c2:Ce w g 2 (aB p.kind):=h.st.cell 2
 have c6:Ce w g 6 (aB p.op):=h.st.cell 6
 have Q:Ce w g 12 (.slice (some (Ad j 0)) r.length o):=h.st.cell 12
 have HP:=aG (gZ c2 c6)
 have a3:Hid ((p.kind==1&&p.op==0)=true):=by show _=_;simp[J.1,J.2]
 have T:Hid (kr w j 0 ⟨a0.text.toArray⟩ a0.at_):=by
  show kr _ _ _ _ _
  have Z:=q a0 (by rw[E];simp)
  have h':RI w w bn b n c d g j o f p sb C C r [] (a0::rr):=E▸h
  have:=h'.name Z
  simpa using this
 have a4:=aG P
 have a5:0< r.length:=by rw[E];simp
 clear h ap q J P E
 go_in
 go_wp2_with fail
 refine HP.mono ?_
 rintro e wq ⟨rfl,hq⟩
 subst wq
 rw[a3.out]
 go_wp2_with fail
 refine(vo HI.nm T a4).mono ?_
 rintro e w1 ⟨rfl,hb⟩
 have W:=aG (HI.below hb)
 have y:Ce w1 g 12 (.slice (some (Ad j 0)) r.length o):=W.st.cell 12
 clear hb c2 c6 Q
 go_wp2_with fail
 clear y
 go_loopw [28] (fun i wr=>∃(k:Nat) (l:Lc) (r1 r2:List Pa),k=r1.length/\i=aB k/\Hid (RI w wr bn b n c d g j o f p sb C l r r1 r2)/\Hid (∀a,a∈r2->a.text.length<=1000000)) (fun i _=>r.length-(intOf i).toNat)
 case atStart=>exact⟨0,C,[],r,rfl,rfl,W,HZ⟩
 case round=>
  obtain⟨k,l,r1,r2,hk,rfl,B,S⟩:=hrel
  have H:=B.len
  have Q:Ce wr g 12 (.slice (some (Ad j 0)) r.length o):=B.st.cell 12
  rcases r2 with _|⟨a,r2⟩
  ·have t:¬((k:Int)< (r.length:Int)):=by simp at H;omega
   have L:Hid (eC f C r=.ok (r1,l)):=by show _=_;rw[B.out.eq,eC];simp
   go_wp2_with fail
   first|go_end0|refine bodyPost_ret (results_none rfl _ _ _) rfl ?_
   exact .inl ⟨r1,l,L,rfl,B⟩
  ·have t:(k:Int)< (r.length:Int):=by simp at H;omega
   have a9:k< r.length:=by omega
   have s:a.text.length<=1000000:=S a (by simp)
   have R:Hid (∀x,x∈r2->x.text.length<=1000000):=fun x hx=>S x (by simp[hx])
   have K:=aG (B.name s)
   subst hk
   have Y:=K.t0
   have a8:r1.length<=1000000:=by omega
   rcases A:a.text with _|⟨ch,M⟩
   ·have a2:=aG (B.skip A)
    rw[A]at Y
    replace A:=aG A
    go_wp2_with fail
    go_roundw
    case rel=>exact⟨r1.length+1,l,r1++[a],r2,by simp,by go_num,a2,R⟩
    case measure=>simp[intOf];omega
   ·have G:a.text≠[]:=by rw[A];simp
    have a6:wr.cell? (Ad j (r1.length*4))=some (.string ⟨(ch::M:aJ).toArray⟩):=by rw[<-A];exact Y
    have V:=aG G
    clear Y G
    replace A:=aG A
    cases D:iH f l a.text with
    |error er=>
     have F:Hid (iH f l a.text=.error er):=D
     have L:Hid (eC f C r=.error (er,a.at_)):=by show _=_;rw[B.out.eq,eC,if_neg V.out,D]
     clear D
     go_wp2_with fail
     refine(lI B.nm K B.hc B.lc F).mono ?_
     rintro e w2 ⟨⟨b2,rfl,v⟩,u⟩
     replace v:=aG v
     replace u:=aG u
     go_wp2_with fail
     exact⟨rfl,.inr ⟨er,a.at_,L,⟨b2,rfl,v⟩,B.kp.below u⟩⟩
    |ok ml=>
     obtain⟨m,l'⟩:=ml
     have F:Hid (iH f l a.text=.ok (m,l')):=D
     clear D
     go_wp2_with fail
     refine(mW B.nm K B.hc B.lc B.le X.a1 F).mono ?_
     rintro e w2 ⟨rfl,hw,N,O⟩
     have z:=aG (B.step X V F hw N O)
     clear hw N O
     go_wp2_with fail
     go_roundw
     case rel=>exact⟨r1.length+1,l',r1++[{a with num:=m}],r2,by simp,by go_num,z,R⟩
     case measure=>simp[intOf];omega
theorem wY{bn:Nat}{f:aJ->Option (Nat×Nat)}{p:Ph}{sb:Value}{H:Lc}{r:List Pa}(h:RI w w bn a n b c d g i f p sb H H r [] r)(ap:si bn a b c d g)(C:p.kind=1/\p.op=0){a0:Pa}{P:List Pa}(B:r=a0::P)(E:dK f a0.text 0=some m)(Q:a0.text.length<=1000000):
  Calls Tryz.prog 95 #[Pt bn 0,Pt b 0,Pt d 0] w fun Z w'=>Z=.returned (.tuple #[])/\∃G,Bw w G/\w'=(G.setCell ⟨g,0+2,none⟩ (.int .i64 m)).setCell ⟨d,2,none⟩ (.int .i64 2):=by
 have W:=aG h
 have T:Ce w d 2 (aB p.kind):=h.st.cell 2
 have S:Ce w d 6 (aB p.op):=h.st.cell 6
 have L:Ce w d 12 (.slice (some (Ad g 0)) r.length i):=h.st.cell 12
 have l:=aG (gZ T S)
 have M:Hid ((p.kind==1&&p.op==0)=true):=by show _=_;simp[C.1,C.2]
 have F:Hid (kr w g 0 ⟨a0.text.toArray⟩ a0.at_):=by
  show kr _ _ _ _ _
  have k:RI w w bn a n b c d g i f p sb H H r [] (a0::P):=B▸h
  have:=k.name Q
  simpa using this
 have O:=aG E
 have R:0< r.length:=by rw[B];simp
 have D:=ap.a2
 have j:g≠d:=fun e=>D e.symm
 clear h ap Q C E B
 go_in
 go_wp2_with fail
 refine l.mono ?_
 rintro e X ⟨rfl,o⟩
 subst X
 rw[M.out]
 go_wp2_with fail
 refine(rQ W.nm F O).mono ?_
 rintro e Y ⟨rfl,G,K,J⟩
 have N:=aG (W.below K)
 have A:=N.st.setO g (0+2) (aB m) D
 rw[<-J]at A
 have s:Ce Y d 2 (aB p.kind):=A.cell 2
 have q:=A.fz
 have V:=aG (And.intro K J)
 clear K J T S L A
 go_wp2_with fail
 first|go_end0|refine bodyPost_ret (results_none rfl _ _ _) rfl ?_
 exact⟨rfl,G,V.1,by rw[V.out.2]⟩
structure St where
 lc:Lc
 pl:Nat
 news:Nat
 gos:Nat
def oM(news gos:Nat)(p:Ph):Except Nat (Nat×Nat):=
 if p.kind=6 then(if news=6 then .error 8 else .ok (news+1,gos))else if p.kind=7 then(if gos=5 then .error 8 else .ok (news,gos+1))else .ok (news,gos)
def nS(f:aJ->Option (Nat×Nat))(p:Ph)(r:List Pa):Option Nat:=match r with
 |[]=>none
 |a::_=>if p.kind=1/\p.op=0 then dK f a.text 0 else none
def oV(m:Nat):List Pa->List Pa
 |[]=>[]
 |a::r=>{a with num:=m}::r
def kH(f:aJ->Option (Nat×Nat))(l:Lc)(p:Ph)(r:List Pa):Except (Nat×Nat) (Ph×List Pa×Lc):=match nS f p r with
 |some m=>.ok ({p with kind:=2},oV m r,l)
 |none=>match eC f l r with|.ok (r',l')=>.ok (p,r',l')|.error e=>.error e
def jt(f:aJ->Option (Nat×Nat))(np:List Nat)(st:St)(p:Ph)(r:List Pa):Except (Nat×Nat) (St×Ph×List Pa):=
 if st.pl=48 then .error (8,p.at_)
 else match gy f st.lc {p with place:=st.pl}with
  |.error e=>.error (e,p.la)
  |.ok (p2,l2)=>match oM st.news st.gos p2 with
   |.error e=>.error (e,p.wa)
   |.ok (nw,gs)=>match gm f np r.length p2 with
    |.error e=>.error (e,p.na)
    |.ok p3=>match kH f l2 p3 r with
     |.error e=>.error e
     |.ok (p4,r',l')=>.ok (⟨l',st.pl+1,nw,gs⟩,p4,r')
mutual
def zD(f:aJ->Option (Nat×Nat))(np:List Nat)(st:St):eM->Except (Nat×Nat) (St×eM)
 |.mk p r bls=>match jt f np st p r with
  |.error e=>.error e
  |.ok (st1,p',r')=>match nR f np st1 bls with
   |.error e=>.error e
   |.ok (st2,bls')=>.ok (st2,.mk p' r' bls')
def kQ(f:aJ->Option (Nat×Nat))(np:List Nat)(st:St):List eM->Except (Nat×Nat) (St×List eM)
 |[]=>.ok (st,[])
 |s::l=>match zD f np st s with
  |.error e=>.error e
  |.ok (st1,s')=>match kQ f np st1 l with
   |.error e=>.error e
   |.ok (st2,l')=>.ok (st2,s'::l')
def nR(f:aJ->Option (Nat×Nat))(np:List Nat)(st:St):List (List eM)->Except (Nat×Nat) (St×List (List eM))
 |[]=>.ok (st,[])
 |l::ls=>match kQ f np st l with
  |.error e=>.error e
  |.ok (st1,l')=>match nR f np st1 ls with
   |.error e=>.error e
   |.ok (st2,ls')=>.ok (st2,l'::ls')
end
structure KN(p:Ph)(r:List Pa):Prop where
 lt:p.lt.length<=1000000
 nt:p.nt.length<=1000000
 rs:∀a,a∈r->a.text.length<=1000000
 rl:r.length<=1000000
 r0:p.kind=1/\p.op=0->r≠[]
mutual
def wj:eM->Prop
 |.mk p r bls=>KN p r/\nD bls/\bls.length<=1000000
def im:List eM->Prop
 |[]=>True
 |s::l=>wj s/\im l
def nD:List (List eM)->Prop
 |[]=>True
 |l::ls=>(im l/\l.length<=1000000)/\nD ls
end
mutual
def vr:eM->List Ph
 |.mk p _ bls=>p::jc bls
def fU:List eM->List Ph
 |[]=>[]
 |s::l=>vr s++fU l
def jc:List (List eM)->List Ph
 |[]=>[]
 |l::ls=>fU l++jc ls
end
def kR(k:Nat):Nat:=if k=1 then 3 else 5
def qd(c:Nat->Nat)(k:Nat):Nat->Nat:=fun j=>if j=k then c k+1 else c j
def dI(f:aJ->Option (Nat×Nat))(c:Nat->Nat):List Pd->Except (Nat×Nat) (List Pd×(aJ->Option (Nat×Nat))×(Nat->Nat))
 |[]=>.ok ([],f,c)
 |d::l=>if(f d.name).isSome=true then .error (7,d.at_)else if c d.kind=kR d.kind then .error (8,d.at_)
  else match dI (putF f d.name (d.kind,c d.kind)) (qd c d.kind) l with
   |.error e=>.error e
   |.ok (l',f',c')=>.ok ({d with num:=c d.kind}::l',f',c')
def gR(f:aJ->Option (Nat×Nat))(l:Lc)(i:Nat):List Pn->Except (Nat×Nat) (List Pn×Lc)
 |[]=>.ok ([],l)
 |t::r=>if(f t.text).isSome=true\/(l.g t.text).isSome=true then .error (7,t.at_)else if i=3 then .error (8,t.at_)
  else match gR f ⟨fun s=>if s=t.text then some i else l.g s,l.c+1⟩ (i+1) r with
   |.error e=>.error e
   |.ok (r',l')=>.ok ({t with num:=i}::r',l')
def En(f:aJ->Option (Nat×Nat))(d:Pd):Except (Nat×Nat) (Pd×Lc):=match gR f ⟨fun _=>none,0⟩ 0 d.params with
 |.error e=>.error e
 |.ok (r,l)=>.ok ({d with params:=r},l)
def eA(n:Nat):List Pd->List Nat
 |[]=>[]
 |d::l=>if d.kind=2 then n::eA (n+1) l else eA (n+1) l
def gG(f:aJ->Option (Nat×Nat)):List Nat->List Pd->Except (Nat×Nat) (List Pd×List Lc)
 |[],l=>.ok (l,[])
 |k::ks,l=>match l[k]? with
  |none=>.ok (l,[])
  |some d=>match En f d with
   |.error e=>.error e
   |.ok (d',lc)=>match gG f ks (l.set k d')with
    |.error e=>.error e
    |.ok (l',lcs)=>.ok (l',lc::lcs)
def ju(f:aJ->Option (Nat×Nat))(np:List Nat):List (Nat×Lc)->Nat->Nat->Nat->List Pd->Except (Nat×Nat) (List Pd×List Ph)
 |[],_,_,_,l=>.ok (l,[])
 |(k,lc)::ks,pl,news,gos,l=>match l[k]? with
  |none=>.ok (l,[])
  |some d=>match kQ f np ⟨lc,pl,news,gos⟩ d.body with
   |.error e=>.error e
   |.ok (st,b)=>match ju f np ks st.pl st.news st.gos (l.set k {d with body:=b,locals:=st.lc.c})with
    |.error e=>.error e
    |.ok (l',hs)=>.ok (l',fU b++hs)
def jW(f:aJ->Option (Nat×Nat))(np:List Nat):Bool:=match dK f [109,97,105,110] 2 with
 |none=>false
 |some m=>np[m]?==some 0
def jr(l:List Pd):List Nat:=(l.filter (fun d=>d.kind==2)).map (fun d=>d.params.length)
def eE(l:List Pd):Except (Nat×Nat) (List Pd×List Ph):=match dI (fun _=>none) (fun _=>0) l with
 |.error e=>.error e
 |.ok (l1,f,_)=>match gG f (eA 0 l1) l1 with
  |.error e=>.error e
  |.ok (l2,lcs)=>match ju f (jr l1) ((eA 0 l1).zip lcs) 0 0 0 l2 with
   |.error e=>.error e
   |.ok l3=>if jW f (jr l1)then .ok l3 else .error (11,0)
section
theorem gX{f:aJ->Option (Nat×Nat)}{l:Lc}{p:Ph}{r:List Pa}(h:nS f p r=none):kH f l p r=match eC f l r with|.ok (r',l')=>.ok (p,r',l')|.error e=>.error e:=by unfold kH;rw[h];try rfl
theorem rO{f:aJ->Option (Nat×Nat)}{p:Ph}{r:List Pa}(h:¬(p.kind=1/\p.op=0)):nS f p r=none:=by
 unfold nS
 split
 ·rfl
 ·rw[if_neg h]
theorem xv{f:aJ->Option (Nat×Nat)}{l l':Lc}{p A:Ph}(h:gy f l p=.ok (A,l')):∃m k,A={p with ln:=m,kind:=k}/\(k=p.kind\/k=3):=by
 unfold gy at h
 split at h
 ·cases h;exact⟨p.ln,p.kind,rfl,.inl rfl⟩
 ·split at h
  ·cases h;exact⟨_,3,rfl,.inr rfl⟩
  ·split at h
   ·cases h
   ·cases h;exact⟨_,p.kind,rfl,.inl rfl⟩
theorem vd{f:aJ->Option (Nat×Nat)}{np:List Nat}{p A:Ph}(h:gm f np a p=.ok A):∃m,A={p with nn:=m}:=by
 unfold gm at h
 repeat' split at h
 all_goals first|(cases h;exact⟨_,rfl⟩)|cases h
theorem pQ{f:aJ->Option (Nat×Nat)}{np:List Nat}{p:Ph}(h:p.kind≠9/\p.kind≠10/\p.kind≠7/\p.kind≠11):gm f np a p=.ok p:=by
 unfold gm
 rw[if_neg (by omega),if_neg (by omega)]
structure ym(w:World)(Q:Nat->Prop)(fv:Value)(np:List Nat):Prop where
 ex:∃pf cf,fv=.slice pf np.length cf/\∀m k,np[m]?=some k->∃gf bf bd pp cp,Q gf/\Q bf/\Q bd/\pf=some ⟨gf,0,none⟩/\w.cell? ⟨gf,m,none⟩=some (aF bf)/\w.cell? ⟨bf,0,none⟩=some (aF bd)/\w.cell? ⟨bd,4,none⟩=some (.slice pp k cp)
theorem ym.kept{S:Nat->Prop}{w':World}{Q:Nat->Prop}{np:List Nat}(h:ym w Q y np)(k:aC S w w')(A:∀i,Q i->¬S i):ym w' Q y np:=by
 obtain⟨pf,P,e,L⟩:=h.ex
 refine⟨pf,P,e,fun m j M=>?_⟩
 obtain⟨gf,B,C,K,O,F,E,D,N,J,H,G⟩:=L m j M
 exact⟨gf,B,C,K,O,F,E,D,N,by rw[k.cell (p:=Ad gf m) (aD J) (A gf F)];exact J,by rw[k.cell (p:=Ad B 0) (aD H) (A B E)];exact H,by rw[k.cell (p:=Ad C 4) (aD G) (A C D)];exact G⟩
theorem aC.below'{S:Nat->Prop}{a b c:World}(h:aC S a b)(k:Below a.heap.size b c):aC S a c:=
 (h.mono (T:=S) (fun _ e=>e)).trans' (S:=S) (T:=fun i=>a.heap.size<=i) ⟨k.os,k.tape,k.output,k.size,fun i B A=>k.block i (by omega)⟩ (fun i e=>.inr e)
def yO(bp bm:Nat)(fv:Value)(news gos:Nat):Array Value:=#[aF bp,.map (some bm),fv,.int .i64 news,.int .i64 gos]
structure NB(w:World)(bn bm bp n:Nat)(f:aJ->Option (Nat×Nat))(Q:Nat->Prop)(np:List Nat)(fv:Value)(news gos:Nat):Prop where
 nb:aM w bn (yO bp bm fv news gos)
 th:ei w bm n f
 fx:ym w Q fv np
 n6:news<=6
 g5:gos<=5
section
variable {w w':World} {bn bm bp n:Nat} {f:aJ->Option (Nat×Nat)} {Q:Nat->Prop} {np:List Nat} {fv:Value} {news gos:Nat}
theorem NB.nm(h:NB w bn bm bp n f Q np fv news gos):NM w bn bm n f:=⟨h.nb.cell 1,h.th⟩
theorem NB.cnt(h:NB w bn bm bp n f Q np fv news gos):Jn w bn news gos:=⟨h.nb.cell 3,h.nb.cell 4,h.nb.fz 3,h.nb.fz 4,h.n6,h.g5⟩
theorem NB.fns(h:NB w bn bm bp n f Q np fv news gos):Mm w Q bn np:=by
 obtain⟨pf,B,e,A⟩:=h.fx.ex
 exact⟨pf,B,by rw[<-e];exact h.nb.cell 2,A⟩
theorem NB.kept{S:Nat->Prop}(h:NB w bn bm bp n f Q np fv news gos)(k:aC S w w')(C:¬S bn)(B:¬S bm)(A:∀i,Q i->¬S i):NB w' bn bm bp n f Q np fv news gos:=
 ⟨h.nb.kept k C,h.th.kept k B,h.fx.kept k A,h.n6,h.g5⟩
theorem xu{p:Ph}{sr sb:Value}(h:NB w bn bm bp n f Q np fv news gos)(M:aM w a (bK p sr sb))(A:a≠bn)(D:bm≠bn)(L:∀i,Q i->i≠bn):
  Ca 93 #[Pt bn 0,Pt a 0] w fun r w'=>aC (aK bn) w w'/\((∃nw N,oM news gos p=.ok (nw,N)/\r=.returned (.tuple #[])/\NB w' bn bm bp n f Q np fv nw N)\/(∃e,oM news gos p=.error e/\dA w' r e p.wa)):=by
 have F:Ce w a 2 (aB p.kind):=M.cell 2
 have E:Ce w a 8 (aB p.wa):=M.cell 8
 have O:=h.n6
 have P:=h.g5
 by_cases B:p.kind=6
 ·by_cases J:news=6
  ·refine(oL h.cnt F E A B J).mono ?_
   rintro r w' ⟨H,G⟩
   exact⟨((aC.refl (aK bn) w).set1 3 _).trans' (aC.of_below (S:=fun _=>False) (G.mono (by simp[World.setCell]))) (fun i e=>e.elim),.inr ⟨8,by unfold oM;rw[if_pos B,if_pos J],H⟩⟩
  ·refine(xt h.cnt F E A B (by omega)).mono ?_
   rintro r w' ⟨rfl,rfl⟩
   have k:=(aC.refl (aK bn) w).set1 3 (aB ((news:Int)+1))
   refine⟨k,.inl ⟨news+1,gos,by unfold oM;rw[if_pos B,if_neg J],rfl,?_,h.th.kept k D,h.fx.kept k L,by omega,h.g5⟩⟩
   exact h.nb.set 3 _ (show 3< 5 by decide)
 ·by_cases C:p.kind=7
  ·by_cases K:gos=5
   ·refine(pU h.cnt F E A C K).mono ?_
    rintro r w' ⟨H,G⟩
    exact⟨((aC.refl (aK bn) w).set1 4 _).trans' (aC.of_below (S:=fun _=>False) (G.mono (by simp[World.setCell]))) (fun i e=>e.elim),.inr ⟨8,by unfold oM;rw[if_neg B,if_pos C,if_pos K],H⟩⟩
   ·refine(zN h.cnt F E A C (by omega)).mono ?_
    rintro r w' ⟨rfl,rfl⟩
    have k:=(aC.refl (aK bn) w).set1 4 (aB ((gos:Int)+1))
    refine⟨k,.inl ⟨news,gos+1,by unfold oM;rw[if_neg B,if_pos C,if_neg K],rfl,?_,h.th.kept k D,h.fx.kept k L,h.n6,by omega⟩⟩
    exact h.nb.set 4 _ (show 4< 5 by decide)
  ·refine(tm h.cnt F E A B C).mono ?_
   rintro r w' ⟨rfl,rfl⟩
   exact⟨aC.refl _ _,.inl ⟨news,gos,by unfold oM;rw[if_neg B,if_neg C],rfl,h⟩⟩
theorem uY{p:Ph}{O:Option Addr}{sb:Value}(h:NB w bn bm bp n f Q np fv news gos)(C:aM w a (bK p (.slice O b c) sb))(F:p.nt.length<=1000000)(H:a≠bn)(T:¬Q a)(K:∀t m,dK f t 2=some m->m< np.length)(G:np.length<=1000000):
  Ca 94 #[Pt bn 0,Pt a 0] w fun r w'=>aC (aK a) w w'/\((∃P,gm f np b p=.ok P/\r=.returned (.tuple #[])/\aM w' a (bK P (.slice O b c) sb))\/(∃e,gm f np b p=.error e/\dA w' r e p.na)):=by
 by_cases D:p.kind=9\/p.kind=10
 ·cases A:dK f p.nt 1 with
  |none=>
   refine(ti h.nm C F D A).mono ?_
   rintro r w' ⟨M,B⟩
   exact⟨aC.of_below B,.inr ⟨9,by unfold gm;rw[if_pos D,A],M⟩⟩
  |some m=>
   refine(xn h.nm C F D A).mono ?_
   rintro r w' ⟨rfl,N,B,rfl⟩
   exact⟨(aC.of_below (S:=aK a) B).set1 11 _,.inl ⟨{p with nn:=m},by unfold gm;rw[if_pos D,A],rfl,(C.below B).set 11 _ (show 11< 14 by decide)⟩⟩
 ·by_cases E:p.kind=7\/p.kind=11
  ·cases A:dK f p.nt 2 with
   |none=>
    refine(tj h.nm C F E A).mono ?_
    rintro r w' ⟨M,B⟩
    exact⟨aC.of_below B,.inr ⟨9,by unfold gm;rw[if_neg D,if_pos E,A],M⟩⟩
   |some m=>
    have V:=K _ _ A
    obtain⟨k,J⟩:∃k,np[m]?=some k:=⟨_,List.getElem?_eq_getElem V⟩
    refine(xo h.nm h.fns C F E A J H (by omega) G T).mono ?_
    rintro r w' ⟨N,B,L⟩
    have R:aC (aK a) w ((N.setCell (Ad a (9+2)) (aB m)).drew):=((aC.of_below (S:=aK a) B).set1 11 _).drew
    rcases L with⟨e,rfl,rfl⟩|⟨e,L,W⟩
    ·refine⟨R,.inl ⟨{p with nn:=m},by unfold gm;rw[if_neg D,if_pos E,A];simp only;rw[if_pos (by rw[J,e])],rfl,?_⟩⟩
     exact((C.below B).set 11 _ (show 11< 14 by decide)).below ((Below.refl _ _).drew)
    ·exact⟨R.below' W,.inr ⟨10,by unfold gm;rw[if_neg D,if_pos E,A];simp only;rw[if_neg (by rw[J];simpa using e)],L⟩⟩
  ·refine(vc h.nm C F (by omega)).mono ?_
   rintro r w' ⟨rfl,rfl⟩
   exact⟨aC.refl _ _,.inl ⟨p,pQ (by omega),rfl,C⟩⟩
end
end
structure FW(w:World)(bf bl:Nat)(l:Lc):Prop where
 hc:w.cell? ⟨bf,1,none⟩=some (.map (some bl))
 lc:eP w bl l.c l.g
 le:l.c<=6
theorem FW.kept{S:Nat->Prop}{w':World}{l:Lc}(h:FW w b c l)(k:aC S w w')(B:¬S b)(A:¬S c):FW w' b c l:=
 ⟨by rw[k.cell (p:=Ad b 1) (aD (a:=(Ad b 1)) h.hc) B];exact h.hc,h.lc.kept k A,h.le⟩
theorem zm{bn:Nat}{E:Option Addr}{p:Ph}{sb:Value}(B:aM w b (bK p (.slice E 0 c) sb))(A:¬(p.kind=1/\p.op=0)):
  Calls Tryz.prog 95 #[Pt bn 0,Pt a 0,Pt b 0] w (Ru w (.tuple #[])):=by
 have G:Ce w b 2 (aB p.kind):=B.cell 2
 have F:Ce w b 6 (aB p.op):=B.cell 6
 have C:Ce w b 12 (.slice E 0 c):=B.cell 12
 have J:=aG (gZ G F)
 have D:Hid ((p.kind==1&&p.op==0)=false):=by show _=_;rw[Bool.eq_false_iff];intro e;simp at e;exact A e
 clear B A
 go_in
 go_wp2_with fail
 refine J.mono ?_
 rintro e H ⟨rfl,K⟩
 subst H
 rw[D.out]
 go_wp2_with fail
 clear G F C
 go_loopw [28] (fun i wr=>i=aB 0/\wr=w) (fun _ _=>0)
 case atStart=>exact⟨rfl,rfl⟩
 case round=>
  obtain⟨rfl,rfl⟩:=hrel
  go_wp2_with fail
  first|go_end0|refine bodyPost_ret (results_none rfl _ _ _) rfl ?_
  exact⟨rfl,rfl⟩
structure RW(w':World)(bl bs:Nat)(p:Ph)(sr sb:Value)(r:List Pa)(l:Lc):Prop where
 st:aM w' bs (bK p sr sb)
 row:w'.ownsRow 0 258 4 sr r.length (eF r)
 lc:eP w' bl l.c l.g
 le:l.c<=6
abbrev KX(bl bs:Nat)(sr:Value):Nat->Prop:=fun i=>i=bl\/i=bs\/sr.ownBlock=some i
theorem uX{bn h:Nat}{f:aJ->Option (Nat×Nat)}{Q:Nat->Prop}{np:List Nat}{s:Nat}{p:Ph}{sr sb:Value}{l:Lc}{r:List Pa}(hN:NB w bn b c n f Q np y q s)(M:FW w d h l)(V:aM w o (bK p sr sb))(B:w.ownsRow 0 258 4 sr r.length (eF r))(W:∀a,a∈r->a.text.length<=1000000)(R:r.length<=1000000)(h0:p.kind=1/\p.op=0->r≠[])(ap:∀g,sr.ownBlock=some g->si bn b d h o g)(X:o≠h):
  Ca 95 #[Pt bn 0,Pt d 0,Pt o 0] w fun O w'=>aC (KX h o sr) w w'/\((∃z r2 l',kH f l p r=.ok (z,r2,l')/\O=.returned (.tuple #[])/\r2.length=r.length/\RW w' h o z sr sb r2 l')\/(∃e a,kH f l p r=.error (e,a)/\dA w' O e a)):=by
 rcases r with _|⟨a0,v⟩
 ·obtain⟨pr,P,rfl⟩:=aI B
  have C:¬(p.kind=1/\p.op=0):=fun e=>h0 e rfl
  refine(zm V C).mono ?_
  rintro O w' ⟨rfl,rfl⟩
  exact⟨aC.refl _ _,.inl ⟨p,[],l,by rw[gX (rO C)];rfl,rfl,rfl,V,B,M.lc,M.le⟩⟩
 ·obtain⟨A,P,rfl⟩:=aO B (by simp)
  have F:=ap A rfl
  generalize K:a0::v=r at *
  have Z:RI w w bn b n d h o A P f p sb l l r [] r:=⟨hN.nm,M.hc,M.lc,M.le,V,by simpa using B,aC.refl _ _,by cases eC f l r with|ok x=>rfl|error e=>rfl,by simp⟩
  have T:∀{w':World},aC (fun i=>i=h\/i=A) w w'->aC (KX h o (.slice (some (Ad A 0)) r.length P)) w w':=fun k=>k.mono (fun i e=>e.elim .inl (fun e=>.inr (.inr (by rw[e];rfl))))
  have fin:∀{w':World} {r2:List Pa} {l':Lc},RI w w' bn b n d h o A P f p sb l l' r r2 []->r2.length=r.length/\RW w' h o p (.slice (some (Ad A 0)) r.length P) sb r2 l':=fun{w' r2 l'} hi=>by
   have E:r2.length=r.length:=by have:=hi.len;simpa using this
   refine⟨E,hi.st,?_,hi.lc,hi.le⟩
   have:=hi.row
   rw[E]
   simpa using this
  by_cases C:p.kind=1/\p.op=0
  ·have D:nS f p r=dK f a0.text 0:=by rw[<-K];show(if p.kind=1/\p.op=0 then dK f a0.text 0 else none)=_;rw[if_pos C]
   cases J:dK f a0.text 0 with
   |none=>
    rw[J]at D
    refine(uJ Z F C K.symm J W R).mono ?_
    rintro O w' (⟨r2,l',G,rfl,H⟩|⟨e,a,G,H,t⟩)
    ·exact⟨T H.kp,.inl ⟨p,r2,l',by rw[gX D,G],rfl,(fin H).1,(fin H).2⟩⟩
    ·exact⟨T t,.inr ⟨e,a,by rw[gX D,G],H⟩⟩
   |some m=>
    rw[J]at D
    refine(wY Z F C K.symm J (W a0 (by rw[<-K];simp))).mono ?_
    rintro O w' ⟨rfl,N,G,rfl⟩
    have k1:aC (KX h o (.slice (some (Ad A 0)) r.length P)) w ((N.setCell (Ad A (0+2)) (aB m)).setCell (Ad o 2) (aB 2)):=((aC.of_below G).setCell (p:=Ad A (0+2)) (.inl (.inr (.inr rfl))) _).setCell (p:=Ad o 2) (.inl (.inr (.inl rfl))) _
    have k2:aC (fun i=>i=A\/i=o) w ((N.setCell (Ad A (0+2)) (aB m)).setCell (Ad o 2) (aB 2)):=((aC.of_below G).setCell (p:=Ad A (0+2)) (.inl (.inl rfl)) _).setCell (p:=Ad o 2) (.inl (.inr rfl)) _
    refine⟨k1,.inl ⟨{p with kind:=2},oV m r,l,by unfold kH;rw[D],rfl,by rw[<-K];rfl,?_,?_,M.lc.kept k2 (fun e=>by rcases e with e|e;exact F.a1 e.symm;exact X e.symm),M.le⟩⟩
    ·exact((V.below G).setO A (0+2) _ F.a2).set 2 _ (show 2< 14 by decide)
    ·have E:(oV m r).length=r.length:=by rw[<-K];rfl
     rw[E]
     have L:=aP B G
     have S:=sW (w':=(N.setCell (Ad A (0+2)) (aB m)).setCell (Ad o 2) (aB 2)) L rfl (j:=2) (u:=aB m) (by rw[<-K];simp;omega) (fun a3 Y=>by
      have hg:A< N.heap.size:=by
       rcases Nat.lt_or_ge A N.heap.size with x|x
       ·exact x
       ·rw[Array.getElem?_eq_none x]at Y;cases Y
      rw[((aC.refl (aK o) (N.setCell (Ad A (0+2)) (aB m))).set1 2 (aB 2)).block A (by simpa[World.setCell]using hg) (fun e=>F.a2 (e:A=o).symm)]
      exact heap_setCell Y _ _)
     have:(eF r).set 2 (aB m)=eF (oV m r):=by rw[<-K];exact uR [] v a0 m
     rw[<-this]
     exact S
  ·have D:nS f p r=none:=rO C
   refine(zl Z F C W R).mono ?_
   rintro O w' (⟨r2,l',G,rfl,H⟩|⟨e,a,G,H,t⟩)
   ·exact⟨T H.kp,.inl ⟨p,r2,l',by rw[gX D,G],rfl,(fin H).1,(fin H).2⟩⟩
   ·exact⟨T t,.inr ⟨e,a,by rw[gX D,G],H⟩⟩
structure Ev where
 bn:Nat
 bm:Nat
 bp:Nat
 n:Nat
 B:Nat
 f:aJ->Option (Nat×Nat)
 Q:Nat->Prop
 np:List Nat
 fv:Value
 dv:Value
structure KK(E:Ev)(bf bl:Nat):Prop where
 nm:E.bn≠E.bm
 np:E.bn≠E.bp
 nl:E.bn≠bl
 mp:E.bm≠E.bp
 ml:E.bm≠bl
 pl:E.bp≠bl
 fn:bf≠E.bn
 fp:bf≠E.bp
 fl:bf≠bl
 lt:E.bn< E.B/\E.bm< E.B/\E.bp< E.B/\bf< E.B/\bl< E.B
 q:∀i,E.Q i->i< E.B/\i≠E.bn/\i≠E.bp/\i≠bl
 fm:∀t m,dK E.f t 2=some m->m< E.np.length
 few:E.np.length<=1000000
def Fp(E:Ev)(bf bl:Nat)(P:Nat->Prop):Prop:=∀i,P i->i< E.B/\i≠E.bn/\i≠E.bm/\i≠E.bp/\i≠bf/\i≠bl/\¬E.Q i
def jZ(E:Ev)(bl:Nat)(P:Nat->Prop):Nat->Prop:=fun i=>P i\/i=E.bn\/i=E.bp\/i=bl\/E.B<=i
theorem jZ.mono{E:Ev}{P P':Nat->Prop}(h:∀i,P i->P' i):∀i,jZ E a P i->jZ E a P' i:=fun i e=>e.elim (fun x=>.inl (h i x)) .inr
theorem jZ.not{E:Ev}{P:Nat->Prop}(D:KK E a b)(A:i< E.B/\i≠E.bn/\i≠E.bm/\i≠E.bp/\i≠a/\i≠b/\¬E.Q i)(C:¬P i):¬jZ E b P i:=fun e=>by
 rcases e with e|e|e|e|e
 ·exact C e
 ·exact A.2.1 e
 ·exact A.2.2.2.1 e
 ·exact A.2.2.2.2.2.1 e
 ·omega
structure NW(w:World)(E:Ev)(st:St)(lv:Value)(done:List Nat):Prop where
 nb:NB w E.bn E.bm E.bp E.n E.f E.Q E.np E.fv st.news st.gos
 pb:aM w E.bp #[E.dv,lv]
 own:w.ownsRow E.B 167 1 lv done.length (fg done)
 pl:done.length=st.pl
 p48:st.pl<=48
 le:E.B<=w.heap.size
theorem NW.kept{S:Nat->Prop}{w':World}{E:Ev}{st:St}{done:List Nat}(h:NW w E st y done)(k:aC S w w')(A:∀i,S i->i< E.B/\i≠E.bn/\i≠E.bm/\i≠E.bp/\¬E.Q i):NW w' E st y done:=
 ⟨h.nb.kept k (fun e=>(A _ e).2.1 rfl) (fun e=>(A _ e).2.2.1 rfl) (fun i C e=>(A i e).2.2.2.2 C),h.pb.kept k (fun e=>(A _ e).2.2.2.1 rfl),dw h.own k (fun i e=>(A i e).1),h.pl,h.p48,Nat.le_trans h.le k.size⟩
inductive ib(w:World)(P:Nat->Prop):List Nat->List Ph->Prop
 |nil:ib w P [] []
 |cons {b:Nat} {p:Ph} {sr sb:Value} {L:List Nat} {hs:List Ph}:P b->aM w b (bK p sr sb)->ib w P L hs->ib w P (b::L) (p::hs)
theorem ib.keep{w':World}{P P' S:Nat->Prop}(k:aC S w w')(B:∀b,P b->¬S b/\P' b){A:List Ph}(h:ib w P L A):ib w' P' L A:=by
 induction h with
 |nil=>exact ib.nil
 |cons h1 h2 _ ih=>exact ib.cons (B _ h1).2 (h2.kept k (B _ h1).1) ih
theorem ib.app{P:Nat->Prop}{l:List Nat}{B A:List Ph}(h:ib w P L B)(C:ib w P l A):ib w P (L++l) (B++A):=by
 induction h with
 |nil=>exact C
 |cons h1 h2 _ ih=>exact ib.cons h1 h2 ih
def Dr{α:Type}(w w':World)(E:Ev)(bf bl:Nat)(P:Nat->Prop)(done:List Nat)(R:Except (Nat×Nat) (St×α))(hd:α->List Ph)(T:World->α->Prop)(r:Ending):Prop:=
 aC (jZ E bl P) w w'/\((∃st' x lv' L,R=.ok (st',x)/\r=.returned (.tuple #[])/\NW w' E st' lv' (done++L)/\FW w' bf bl st'.lc/\T w' x/\ib w' P L (hd x))\/(∃e a,R=.error (e,a)/\dA w' r e a))
def iZ(s:eM):Prop:=∀(w:World) (E:Ev) (bf bl b:Nat) (P:Nat->Prop) (st:St) (lv:Value) (done:List Nat),NW w E st lv done->FW w bf bl st.lc->KK E bf bl->Fp E bf bl P->il w P b s->wj s->
 Calls Tryz.prog 63 #[.pointer (some ⟨E.bn,0,none⟩),.pointer (some ⟨bf,0,none⟩),.pointer (some ⟨b,0,none⟩)] w fun r w'=>Dr w w' E bf bl P done (zD E.f E.np st s) vr (fun w' s'=>il w' P b s') r
def lB(l:List eM):Prop:=∀(w:World) (E:Ev) (bf bl:Nat) (P P':Nat->Prop) (bb:List Nat) (v:Value) (st:St) (lv:Value) (done:List Nat),NW w E st lv done->FW w bf bl st.lc->KK E bf bl->Fp E bf bl P->Fp E bf bl P'->(∀i,P' i->¬P i)->dL w P' 167 1 v bb.length (fg bb)->cV w P bb l->im l->l.length<=1000000->
 Calls Tryz.prog 41 #[.pointer (some ⟨E.bn,0,none⟩),.pointer (some ⟨bf,0,none⟩),v] w fun r w'=>Dr w w' E bf bl P done (kQ E.f E.np st l) fU (fun w' l'=>cV w' P bb l') r
theorem cV.len{P:Nat->Prop}{l:List eM}(h:cV w P L l):L.length=l.length:=by
 induction L generalizing l P with
 |nil=>cases h;rfl
 |cons b L ih=>cases h with|cons h1 h2 hq hr=>simp[ih h2]
theorem dM.len{P:Nat->Prop}{vs:List Value}{A:List (List eM)}(h:dM w P vs A):vs.length=A.length:=by
 induction vs generalizing A P with
 |nil=>cases h;rfl
 |cons b bs ih=>cases h with|cons h1 h2 h3 hq hr=>simp[ih h3]
theorem dL.mono{P P':Nat->Prop}{size:Nat}{A:List Value}(h:dL w P e size v n A)(hp:∀i,v.ownBlock=some i->P i->P' i):dL w P' e size v n A:=⟨h.1,fun k B=>hp k B (h.2 k B)⟩
theorem dM.snoc{P P' Q R:Nat->Prop}{vs:List Value}{D:List (List eM)}{l:List eM}(h:dM w P vs D)(C:dL w R 167 1 v L.length (fg L))(G:cV w Q L l)(B:∀i,P i->P' i/\¬R i)(E:∀i,R i->P' i)(F:∀i,Q i->R i/\v.ownBlock≠some i):dM w P' (vs++[v]) (D++[l]):=by
 induction vs generalizing D P P' with
 |nil=>
  cases h
  exact dM.cons (R:=fun _=>False) (C.mono (fun i _ A=>E i A)) G dM.nil (fun i A=>⟨E i (F i A).1,(F i A).2,fun e=>e⟩) (fun i e=>e.elim)
 |cons u vs ih=>
  cases h with
  |@cons _ Q0 R0 _ bb0 _ l0 ls0 g1 g2 g3 hq hr=>
   exact dM.cons (R:=fun i=>R0 i\/R i) (g1.mono (fun i _ A=>(B i A).1)) g2 (ih g3 (fun i A=>⟨.inl A,(B i (hr i A).1).2⟩) (fun i A=>.inr A))
    (fun i A=>⟨(B i (hq i A).1).1,(hq i A).2.1,fun e=>e.elim (hq i A).2.2 (B i (hq i A).1).2⟩)
    (fun i A=>A.elim (fun e=>⟨(B i (hr i e).1).1,(hr i e).2⟩) (fun e=>⟨E i e,fun x=>(B i (g1.2 i x)).2 e⟩))
structure BN(w wr:World)(E:Ev)(bf bl:Nat)(P:Nat->Prop)(done:List Nat)(R:Except (Nat×Nat) (St×List eM))(bb bb1 bb2:List Nat)(st:St)(lv:Value)(L:List Nat)(l1 l2:List eM)(P1 P2:Nat->Prop):Prop where
 eb:bb=bb1++bb2
 nw:NW wr E st lv (done++L)
 fw:FW wr bf bl st.lc
 r1:cV wr P1 bb1 l1
 r2:cV wr P2 bb2 l2
 p1:∀i,P1 i->P i/\¬P2 i
 p2:∀i,P2 i->P i
 kp:aC (jZ E bl P) w wr
 hd:ib wr P1 L (fU l1)
 ok:im l2
 eq:R=match kQ E.f E.np st l2 with|.error e=>.error e|.ok (st',l')=>.ok (st',l1++l')
theorem xD(l m:List eM):fU (l++m)=fU l++fU m:=by
 induction l with
 |nil=>simp[fU]
 |cons a l ih=>simp[fU,ih]
theorem Cc{l:List eM}(hS:∀s,s∈l->iZ s):lB l:=by
 intro w E bf Y P P' R v st lv done hn hf hs hp t q N O u X
 obtain⟨pv,cv,rfl⟩:=aI N.1
 have ac:R.length<=1000000:=by rw[O.len];exact X
 clear X
 obtain⟨W,HP⟩:=aN hs hp
 have a8:=aG t
 obtain⟨a7,F,a5⟩:=bY q N hS
 have HI:Hid (BN w w E bf Y P done (kQ E.f E.np st l) R [] R st lv [] [] l (fun _=>False) P):=
  ⟨rfl,by simpa using hn,hf,cV.nil,O,fun _ e=>e.elim,fun _ e=>e,aC.refl _ _,ib.nil,u,by cases kQ E.f E.np st l with|error e=>rfl|ok x=>rfl⟩
 clear hn hf hs hp t q N O u hS
 go_in
 go_wp2_with fail
 go_loopw [10] (fun i wr=>∃(C G:List Nat) (S:St) (T:Value) (L:List Nat) (n M:List eM) (P1 P2:Nat->Prop),i=aB C.length/\Hid (BN w wr E bf Y P done (kQ E.f E.np st l) R C G S T L n M P1 P2)/\Hid (∀s,s∈M->iZ s)) (fun i _=>R.length-(intOf i).toNat)
 case atStart=>exact⟨[],R,st,lv,[],[],l,_,_,rfl,HI,a5⟩
 case round=>
  obtain⟨C,G,S,T,L,n,M,P1,P2,rfl,B,a0⟩:=hrel
  have D:=B.eb
  rcases G with _|⟨b,G⟩
  ·have a3:M=[]:=by have:=B.r2;cases this;rfl
   have a4:¬((C.length:Int)< (R.length:Int)):=by rw[D];simp
   clear D
   go_wp2_with fail
   first|go_end0|refine bodyPost_ret (results_none rfl _ _ _) rfl ?_
   subst a3
   have e:=B.eq
   rw[kQ]at e
   simp only[List.append_nil]at e
   have D:=B.eb
   simp only[List.append_nil]at D
   subst D
   refine⟨B.kp,.inl ⟨S,n,T,L,e,rfl,B.nw,B.fw,B.r1.keep (aC.refl (fun _=>False) wr) (fun i A=>⟨?_,fun e=>e,(B.p1 i A).1⟩),B.hd.keep (aC.refl (fun _=>False) wr) (fun i A=>⟨fun e=>e,(B.p1 i A).1⟩)⟩⟩
   have:=(HP i (B.p1 i A).1).1
   have:=B.nw.le
   omega
  ·rcases M with _|⟨s,M⟩
   ·have:=B.r2;cases this
   have a4:(C.length:Int)< (R.length:Int):=by rw[D];simp;omega
   have ab:C.length< R.length:=by omega
   have a2:∃Q,pv=some (Ad Q 0):=by
    obtain⟨g,c,e⟩:=aO F.1 (by omega)
    cases e;exact⟨g,rfl⟩
   obtain⟨Q,rfl⟩:=a2
   have y:=a8 Q (F.2 Q rfl)
   have k:wr.cell? (Ad Q C.length)=some (aF b):=by
    rw[B.out.kp.cell (p:=Ad Q C.length) (F.out.1.lt Q rfl).2 (jZ.not W.out y (a7.out Q (F.out.2 Q rfl)))]
    rw[F.out.1.cellAt _ (by omega),D]
    simp[fg]
   have a1:wr.cell? (Ad Q (C.length*1))=some (aF b):=by rw[Nat.mul_one];exact k
   clear y D
   obtain⟨Z,R1,g1,g2,gq,gr⟩:∃Z R1,il wr Z b s/\cV wr R1 G M/\(∀i,Z i->P2 i/\¬R1 i)/\(∀i,R1 i->P2 i):=by
    have:=B.r2
    cases this with
    |cons h1 h2 hq hr=>exact⟨_,_,h1,h2,hq,hr⟩
   have aa:Hid (Fp E bf Y Z):=fun i A=>HP i (B.p2 i (gq i A).1)
   have H:=B.ok
   rw[im]at H
   obtain⟨HC,K⟩:=aN (a0 s (by simp) wr E bf Y b Z S T (done++L) B.nw B.fw W aa g1 H.1) (And.intro g2 (And.intro gq (And.intro gr H.2)))
   clear g1 g2 gq gr H
   go_wp2_with fail
   refine HC.mono ?_
   rintro r w2 ⟨J,hx⟩
   have V:aC (jZ E Y P) w w2:=B.kp.trans (J.mono (jZ.mono (fun i A=>B.p2 i (K.2.1 i A).1)))
   have a9:=aG V
   rcases hx with⟨d,s',m,L2,z,rfl,n2,f2,t2,d2⟩|⟨e,a,z,b2,rfl,h3⟩
   ·have j:∀i,P i->i< wr.heap.size:=fun i A=>by have:=(HP i A).1;have:=B.nw.le;omega
    have h:∀i,P1 i->¬jZ E Y Z i:=fun i A=>jZ.not W (HP i (B.p1 i A).1) (fun e=>(B.p1 i A).2 (K.2.1 i e).1)
    have o:∀i,R1 i->¬jZ E Y Z i:=fun i A=>jZ.not W (HP i (B.p2 i (K.2.2.1 i A))) (fun e=>(K.2.1 i e).2 A)
    have HN:Hid (BN w w2 E bf Y P done (kQ E.f E.np st l) R (C++[b]) G d m (L++L2) (n++[s']) M (fun i=>P1 i\/Z i) R1):=by
     refine⟨by rw[B.out.eb];simp,by rw[<-List.append_assoc];exact n2,f2,?_,?_,?_,fun i A=>B.p2 i (K.2.2.1 i A),V,?_,K.2.2.2,?_⟩
     ·exact(B.r1.keep (P':=P1) J (fun i A=>⟨j i (B.p1 i A).1,h i A,A⟩)).snoc t2 (fun i A=>⟨.inl A,fun e=>(B.p1 i A).2 (K.2.1 i e).1⟩) (fun i A=>.inr A)
     ·exact K.1.keep J (fun i A=>⟨j i (B.p2 i (K.2.2.1 i A)),o i A,A⟩)
     ·intro i A
      rcases A with A|A
      ·exact⟨(B.p1 i A).1,fun e=>(B.p1 i A).2 (K.2.2.1 i e)⟩
      ·exact⟨B.p2 i (K.2.1 i A).1,(K.2.1 i A).2⟩
     ·rw[xD]
      have:fU [s']=vr s':=by simp[fU]
      rw[this]
      exact(B.hd.keep J (fun i A=>⟨h i A,.inl A⟩)).app (d2.keep (aC.refl (fun _=>False) w2) (fun i A=>⟨fun e=>e,.inr A⟩))
     ·rw[B.out.eq,kQ,z]
      simp only
      cases kQ E.f E.np d M with
      |error e=>rfl
      |ok x=>simp
    have a6:Hid (∀x,x∈M->iZ x):=fun x hx=>a0 x (by simp[hx])
    clear J z n2 f2 t2 d2 j h o V
    go_wp2_with fail
    go_roundw
    case rel=>exact⟨C++[b],G,d,m,L++L2,n++[s'],M,_,_,by simp,HN,a6⟩
    case measure=>simp[intOf];omega
   ·have HE:Hid (kQ E.f E.np st l=.error (e,a)):=by show _=_;rw[B.out.eq,kQ,z]
    replace h3:=aG h3
    clear J z V
    go_wp2_with fail
    exact⟨rfl,a9,.inr ⟨e,a,HE,b2,rfl,h3⟩⟩
section
structure SU(w wr:World)(E:Ev)(bf bl b:Nat)(P Q:Nat->Prop)(p:Ph)(sr sb:Value)(r:List Pa)(vs:List Value)(bls:List (List eM))(st:St)(lv:Value)(done:List Nat):Prop where
 nw:NW wr E st lv done
 fw:FW wr bf bl st.lc
 bk:aM wr b (bK p sr sb)
 row:wr.ownsRow 0 258 4 sr r.length (eF r)
 brow:dL wr P 104 1 sb bls.length vs
 tb:dM wr Q vs bls
 kp:aC (jZ E bl P) w wr
structure SF(E:Ev)(bf bl b:Nat)(P Q:Nat->Prop)(sr sb:Value):Prop where
 sy:KK E bf bl
 fp:Fp E bf bl P
 pb:P b
 pr:∀i,sr.ownBlock=some i->P i
 sep:Gv P Q b sr sb
section
variable {w wr w':World} {E:Ev} {bf bl b:Nat} {P Q:Nat->Prop} {p p':Ph} {sr sb:Value} {r r':List Pa} {vs:List Value} {bls:List (List eM)} {st:St} {lv:Value} {done:List Nat}
theorem SF.apart(h:SF E bf bl b P Q sr sb)(g:Nat)(hg:sr.ownBlock=some g):si E.bn E.bm bf bl b g:=by
 have C:=h.fp b h.pb
 have A:=h.fp g (h.pr g hg)
 have B:=h.sy
 exact⟨A.2.2.2.2.2.1,fun e=>h.sep.rb (by rw[hg,e]),C.2.2.2.2.2.1,fun e=>A.2.1 e.symm,B.nl,fun e=>A.2.2.1 e.symm,B.ml,fun e=>A.2.2.2.2.1 e.symm,B.fl⟩
theorem SU.move(h:SU w wr E bf bl b P Q p sr sb r vs bls st lv done)(f:SF E bf bl b P Q sr sb){S:Nat->Prop}(k:aC S wr w')(G:∀i,S i->i=bl\/i=b\/sr.ownBlock=some i):
  NW w' E st lv done/\dL w' P 104 1 sb bls.length vs/\dM w' Q vs bls/\aC (jZ E bl P) w w'/\w'.cell? (Ad bf 1)=some (.map (some bl)):=by
 have F:=f.fp b f.pb
 have J:=f.sy.lt.2.2.2.2
 have C:∀i,S i->i< E.B/\i≠E.bn/\i≠E.bm/\i≠E.bp/\i≠bf/\¬E.Q i:=fun i A=>by
  rcases G i A with e|e|e
  ·subst e;exact⟨J,fun e=>f.sy.nl e.symm,fun e=>f.sy.ml e.symm,fun e=>f.sy.pl e.symm,fun e=>f.sy.fl e.symm,fun e=>(f.sy.q _ e).2.2.2 rfl⟩
  ·subst e;exact⟨F.1,F.2.1,F.2.2.1,F.2.2.2.1,F.2.2.2.2.1,F.2.2.2.2.2.2⟩
  ·have D:=f.fp i (f.pr i e);exact⟨D.1,D.2.1,D.2.2.1,D.2.2.2.1,D.2.2.2.2.1,D.2.2.2.2.2.2⟩
 have K:=h.nw.le
 refine⟨h.nw.kept k (fun i A=>⟨(C i A).1,(C i A).2.1,(C i A).2.2.1,(C i A).2.2.2.1,(C i A).2.2.2.2.2⟩),⟨bJ h.brow.1 k (fun i e x=>?_),h.brow.2⟩,h.tb.keep k (fun i A=>⟨?_,fun x=>?_,A⟩),h.kp.trans (k.mono (fun i A=>?_)),?_⟩
 ·rcases G i x with y|y|y
  ·exact(f.fp i (h.brow.2 i e)).2.2.2.2.2.1 y
  ·exact f.sep.bb (by rw[e,y])
  ·exact f.sep.rs i y e
 ·have:=(f.fp i (f.sep.q i A).1).1;omega
 ·have H:=f.sep.q i A
  rcases G i x with y|y|y
  ·exact(f.fp i H.1).2.2.2.2.2.1 y
  ·exact H.2.1 y
  ·exact H.2.2.1 y
 ·rcases G i A with y|y|y
  ·exact .inr (.inr (.inr (.inl y)))
  ·exact .inl (y▸f.pb)
  ·exact .inl (f.pr i y)
 ·rw[k.cell (p:=Ad bf 1) (aD (a:=(Ad bf 1)) h.fw.hc) (fun x=>(C bf x).2.2.2.2.1 rfl)];exact h.fw.hc
theorem SU.left(h:SU w wr E bf bl b P Q p sr sb r vs bls st lv done)(f:SF E bf bl b P Q sr sb){l':Lc}(g:Mj bl wr w' b p' sr sb l'):SU w w' E bf bl b P Q p' sr sb r vs bls {st with lc:=l'} lv done:=by
 obtain⟨A,F,D,C,B⟩:=h.move f g.kp (fun i G=>G.elim .inl (fun e=>.inr (.inl e)))
 exact⟨⟨A.nb,A.pb,A.own,A.pl,A.p48,A.le⟩,⟨B,g.lc,g.le⟩,g.st,bJ h.row g.kp (fun i e x=>by
  rcases x with x|x
  ·exact(f.fp i (f.pr i e)).2.2.2.2.2.1 x
  ·exact f.sep.rb (by rw[e,x])),F,D,C⟩
theorem SU.named(h:SU w wr E bf bl b P Q p sr sb r vs bls st lv done)(f:SF E bf bl b P Q sr sb)(k:aC (aK b) wr w')(H:aM w' b (bK p' sr sb)):SU w w' E bf bl b P Q p' sr sb r vs bls st lv done:=by
 obtain⟨F,D,C,B,A⟩:=h.move f k (fun i G=>.inr (.inl G))
 exact⟨F,⟨A,h.fw.lc.kept k (fun e=>(f.fp b f.pb).2.2.2.2.2.1 (e:bl=b).symm),h.fw.le⟩,H,bJ h.row k (fun i e x=>f.sep.rb (by rw[e,(x:i=b)])),D,C,B⟩
theorem SU.right(h:SU w wr E bf bl b P Q p sr sb r vs bls st lv done)(f:SF E bf bl b P Q sr sb){l':Lc}(k:aC (KX bl b sr) wr w')(g:RW w' bl b p' sr sb r' l'):SU w w' E bf bl b P Q p' sr sb r' vs bls {st with lc:=l'} lv done:=by
 obtain⟨A,F,D,C,B⟩:=h.move f k (fun i G=>G)
 exact⟨⟨A.nb,A.pb,A.own,A.pl,A.p48,A.le⟩,⟨B,g.lc,g.le⟩,g.st,g.row,F,D,C⟩
theorem SU.limits(h:SU w wr E bf bl b P Q p sr sb r vs bls st lv done)(f:SF E bf bl b P Q sr sb){nw:Nat}(k:aC (aK E.bn) wr w')(g:NB w' E.bn E.bm E.bp E.n E.f E.Q E.np E.fv nw a):SU w w' E bf bl b P Q p sr sb r vs bls {st with news:=nw,gos:=a} lv done:=by
 have C:=h.nw.le
 have A:∀i,P i->¬aK E.bn i:=fun i B e=>(f.fp i B).2.1 e
 refine⟨⟨g,h.nw.pb.kept k (fun e=>f.sy.np (e:E.bp=E.bn).symm),dw h.nw.own k (fun i e=>by have:=f.sy.lt.1;have:i=E.bn:=e;omega),h.nw.pl,h.nw.p48,Nat.le_trans C k.size⟩,h.fw.kept k (fun e=>f.sy.fn e) (fun e=>f.sy.nl (e:bl=E.bn).symm),h.bk.kept k (A b f.pb),bJ h.row k (fun i e=>A i (f.pr i e)),⟨bJ h.brow.1 k (fun i e=>A i (h.brow.2 i e)),h.brow.2⟩,h.tb.keep k (fun i B=>⟨?_,A i (f.sep.q i B).1,B⟩),h.kp.trans (k.mono (fun i B=>.inr (.inl B)))⟩
 have:=(f.fp i (f.sep.q i B).1).1;omega
end
structure SB(w wr:World)(E:Ev)(bf bl b:Nat)(P Q:Nat->Prop)(p:Ph)(sr sb:Value)(r:List Pa)(vs vs1 vs2:List Value)(done:List Nat)(R:Except (Nat×Nat) (St×List (List eM)))(st:St)(lv:Value)(L:List Nat)(l1 l2:List (List eM))(Q1 Q2:Nat->Prop):Prop where
 ev:vs=vs1++vs2
 nw:NW wr E st lv (done++L)
 fw:FW wr bf bl st.lc
 bk:aM wr b (bK p sr sb)
 row:dL wr P 258 4 sr r.length (eF r)
 brow:dL wr P 104 1 sb vs.length vs
 t1:dM wr Q1 vs1 l1
 t2:dM wr Q2 vs2 l2
 q1:∀i,Q1 i->Q i/\¬Q2 i
 q2:∀i,Q2 i->Q i
 kp:aC (jZ E bl P) w wr
 hd:ib wr Q1 L (jc l1)
 ok:nD l2
 eq:R=match nR E.f E.np st l2 with|.error e=>.error e|.ok (st',l')=>.ok (st',l1++l')
theorem xE(l m:List (List eM)):jc (l++m)=jc l++jc m:=by
 induction l with
 |nil=>simp[jc]
 |cons a l ih=>simp[jc,ih]
theorem SB.next{wr u:World}{E:Ev}{P Q:Nat->Prop}{p:Ph}{sr sb:Value}{r:List Pa}{vs N H:List Value}{done:List Nat}{R:Except (Nat×Nat) (St×List (List eM))}{st C:St}{z:Value}{m:List Nat}{n X:List (List eM)}{l l':List eM}{Y M D K:Nat->Prop}{j:List Nat}(h:SB w wr E a c b P Q p sr sb r vs N (v::H) done R st y L n (l::X) Y M)(f:SF E a c b P Q sr sb)
  (g:dL wr M 167 1 v j.length (fg j)) (g3:dM wr K H X) (F:∀i,D i->M i/\v.ownBlock≠some i/\¬K i) (T:∀i,K i->M i/\v.ownBlock≠some i) (k:aC (jZ E c D) wr u) (e2:kQ E.f E.np st l=.ok (C,l')) (s:NW u E C z (done++L++m)) (f2:FW u a c C.lc) (o:cV u D j l') (d2:ib u D m (fU l')):
  SB w u E a c b P Q p sr sb r vs (N++[v]) H done R C z (L++m) (n++[l']) X (fun i=>Y i\/(M i/\¬K i)) K:=by
 have a0:=h.nw.le
 have B:∀i,Q i->P i:=fun i A=>(f.sep.q i A).1
 have W:∀i,P i->i< wr.heap.size:=fun i A=>by have:=(f.fp i A).1;omega
 have G:∀i,P i->¬D i->¬jZ E c D i:=fun i A t=>jZ.not f.sy (f.fp i A) t
 have O:∀i,D i->Q i:=fun i A=>h.q2 i (F i A).1
 have V:=h.ok
 rw[nD]at V
 have S:∀i,Y i->¬jZ E c D i:=fun i A=>G i (B i (h.q1 i A).1) (fun e=>(h.q1 i A).2 (F i e).1)
 have d:∀i,K i->¬jZ E c D i:=fun i A=>G i (B i (h.q2 i (T i A).1)) (fun e=>(F i e).2.2 A)
 have Z:∀i,v.ownBlock=some i->¬jZ E c D i:=fun i e=>G i (B i (h.q2 i (g.2 i e))) (fun x=>(F i x).2.1 e)
 have J:∀i,P i->¬Q i->¬jZ E c D i:=fun i A hn=>G i A (fun e=>hn (O i e))
 refine⟨by rw[h.ev];simp,by rw[<-List.append_assoc];exact s,f2,h.bk.kept k (J b f.pb (fun e=>(f.sep.q b e).2.1 rfl)),⟨bJ h.row.1 k (fun i e=>J i (f.pr i e) (fun x=>(f.sep.q i x).2.2.1 e)),h.row.2⟩,⟨bJ h.brow.1 k (fun i e=>J i (h.brow.2 i e) (fun x=>(f.sep.q i x).2.2.2 e)),h.brow.2⟩,?_,g3.keep k (fun i A=>⟨W i (B i (h.q2 i (T i A).1)),d i A,A⟩),?_,fun i A=>h.q2 i (T i A).1,h.kp.trans (k.mono (jZ.mono (fun i A=>B i (O i A)))),?_,V.2,?_⟩
 ·refine(h.t1.keep (P':=Y) k (fun i A=>⟨W i (B i (h.q1 i A).1),S i A,A⟩)).snoc (R:=fun i=>M i/\¬K i) ⟨bJ g.1 k Z,fun i e=>⟨g.2 i e,fun x=>(T i x).2 e⟩⟩ o (fun i A=>⟨.inl A,fun e=>(h.q1 i A).2 e.1⟩) (fun i A=>.inr A) (fun i A=>⟨⟨(F i A).1,(F i A).2.2⟩,(F i A).2.1⟩)
 ·intro i A
  rcases A with A|A
  ·exact⟨(h.q1 i A).1,fun e=>(h.q1 i A).2 (T i e).1⟩
  ·exact⟨h.q2 i A.1,A.2⟩
 ·rw[xE]
  have:jc [l']=fU l':=by simp[jc]
  rw[this]
  exact(h.hd.keep k (fun i A=>⟨S i A,.inl A⟩)).app (d2.keep (aC.refl (fun _=>False) u) (fun i A=>⟨fun e=>e,.inr ⟨(F i A).1,(F i A).2.2⟩⟩))
 ·rw[h.eq,nR,e2]
  simp only
  cases nR E.f E.np C X with
  |error e=>rfl
  |ok x=>simp
end
section
theorem SU.blocks{wr:World}{E:Ev}{P Q:Nat->Prop}{p:Ph}{sr sb:Value}{r:List Pa}{vs:List Value}{A:List (List eM)}{st:St}{done:List Nat}(h:SU w wr E c d b P Q p sr sb r vs A st y done)(f:SF E c d b P Q sr sb)(B:nD A):
  SB w wr E c d b P Q p sr sb r vs [] vs done (nR E.f E.np st A) st y [] [] A (fun _=>False) Q:=
 ⟨rfl,by simpa using h.nw,h.fw,h.bk,⟨h.row,f.pr⟩,by have:=h.tb.len;rw[this];exact h.brow,dM.nil,h.tb,fun _ e=>e.elim,fun _ e=>e,h.kp,ib.nil,B,by cases nR E.f E.np st A with|error e=>rfl|ok x=>rfl⟩
theorem SB.done{wr:World}{E:Ev}{P Q:Nat->Prop}{p:Ph}{sr sb:Value}{r:List Pa}{vs A:List Value}{done:List Nat}{R:Except (Nat×Nat) (St×List (List eM))}{st:St}{B:List (List eM)}{D G:Nat->Prop}(h:SB w wr E a c b P Q p sr sb r vs A [] (done++[b]) R st y L B [] D G)(f:SF E a c b P Q sr sb):
  R=.ok (st,B)/\NW wr E st y (done++(b::L))/\FW wr a c st.lc/\il wr P b (.mk p r B)/\ib wr P (b::L) (vr (.mk p r B)):=by
 have F:vs=A:=by have:=h.ev;simpa using this
 subst F
 refine⟨by rw[h.eq,nR];simp,by have:=h.nw;simpa using this,h.fw,il.mk (Q:=D) f.pb h.bk h.row (by have:=h.t1.len;rw[<-this];exact h.brow) h.t1 ⟨fun i C=>f.sep.q i (h.q1 i C).1,f.sep.rb,f.sep.bb,f.sep.rs⟩,?_⟩
 rw[vr]
 exact ib.cons f.pb h.bk (h.hd.keep (aC.refl (fun _=>False) wr) (fun i C=>⟨fun e=>e,(f.sep.q i (h.q1 i C).1).1⟩))
theorem SU.app{v u:World}{E:Ev}{P Q:Nat->Prop}{p:Ph}{sr sb:Value}{r:List Pa}{vs:List Value}{K:List (List eM)}{st:St}{z:Value}{done:List Nat}(h:SU w v E a c b P Q p sr sb r vs K st y done)(f:SF E a c b P Q sr sb)(k:aC (fun i=>y.ownBlock=some i) v u)(own:u.ownsRow E.B 167 1 z (done.length+1) (fg done++[aF b]))(O:done.length≠48):
  SU w (u.setCell ⟨E.bp,1,none⟩ z) E a c b P Q p sr sb r vs K {st with pl:=st.pl+1} z (done++[b]):=by
 have L:=h.nw.le
 have H:∀i,y.ownBlock=some i->E.B<=i:=fun i e=>(h.nw.own.lt i e).1
 have F:=f.sy.lt
 have G:aC (fun i=>i=E.bp\/y.ownBlock=some i) v (u.setCell (Ad E.bp 1) z):=(k.mono (T:=fun i=>i=E.bp\/y.ownBlock=some i) (fun i e=>.inr e)).setCell (p:=Ad E.bp 1) (.inl (.inl rfl)) _
 have C:∀i,i< E.B->i≠E.bp->¬(i=E.bp\/y.ownBlock=some i):=fun i D N e=>by
  rcases e with e|e
  ·exact N e
  ·have:=H i e;omega
 have A:∀i,P i->¬(i=E.bp\/y.ownBlock=some i):=fun i D=>C i (f.fp i D).1 (f.fp i D).2.2.2.1
 have J:=h.nw.pl
 have R:=h.nw.p48
 refine⟨⟨h.nw.nb.kept G (C _ F.1 f.sy.np) (C _ F.2.1 f.sy.mp) (fun i D=>C i (f.sy.q i D).1 (f.sy.q i D).2.2.1),?_,?_,by simp[J],by show st.pl+1<=48;omega,Nat.le_trans L G.size⟩,h.fw.kept G (C _ F.2.2.2.1 f.sy.fp) (C _ F.2.2.2.2 (fun e=>f.sy.pl e.symm)),h.bk.kept G (A b f.pb),bJ h.row G (fun i e=>A i (f.pr i e)),⟨bJ h.brow.1 G (fun i e=>A i (h.brow.2 i e)),h.brow.2⟩,h.tb.keep G (fun i D=>⟨?_,A i (f.sep.q i D).1,D⟩),h.kp.trans (G.mono (fun i D=>?_))⟩
 ·have M:=h.nw.pb.kept k (fun e=>by have:=H _ e;omega)
  exact M.set 1 z (show 1< 2 by decide)
 ·have:=bZ (b:=E.bp) own 1 z F.2.2.1
  rw[nP]
  simpa using this
 ·have:=(f.fp i (f.sep.q i D).1).1;omega
 ·rcases D with e|e
  ·exact .inr (.inr (.inl e))
  ·exact .inr (.inr (.inr (.inr (H i e))))
section
variable {f:aJ->Option (Nat×Nat)} {np:List Nat} {st:St} {p p2 p3:Ph} {r:List Pa} {l2:Lc} {nw gs:Nat}
theorem EU(h:st.pl≠48)(A:gy f st.lc {p with place:=st.pl}=.error e):jt f np st p r=.error (e,p.la):=by unfold jt;rw[if_neg h,A]
theorem ET(h:st.pl≠48)(B:gy f st.lc {p with place:=st.pl}=.ok (p2,l2))(A:oM st.news st.gos p2=.error e):jt f np st p r=.error (e,p.wa):=by unfold jt;rw[if_neg h,B];simp only;rw[A]
theorem ES(h:st.pl≠48)(C:gy f st.lc {p with place:=st.pl}=.ok (p2,l2))(B:oM st.news st.gos p2=.ok (nw,gs))(A:gm f np r.length p2=.error e):jt f np st p r=.error (e,p.na):=by unfold jt;rw[if_neg h,C];simp only;rw[B];simp only;rw[A]
theorem ER(h:st.pl≠48)(D:gy f st.lc {p with place:=st.pl}=.ok (p2,l2))(C:oM st.news st.gos p2=.ok (nw,gs))(B:gm f np r.length p2=.ok p3){e:Nat×Nat}(A:kH f l2 p3 r=.error e):jt f np st p r=.error e:=by unfold jt;rw[if_neg h,D];simp only;rw[C];simp only;rw[B];simp only;rw[A]
theorem EP(h:st.pl≠48)(F:gy f st.lc {p with place:=st.pl}=.ok (p2,l2))(E:oM st.news st.gos p2=.ok (nw,gs))(D:gm f np r.length p2=.ok p3){B:Ph}{A:List Pa}{l':Lc}(C:kH f l2 p3 r=.ok (B,A,l')):jt f np st p r=.ok (⟨l',st.pl+1,nw,gs⟩,B,A):=by unfold jt;rw[if_neg h,F];simp only;rw[E];simp only;rw[D];simp only;rw[C]
end
theorem Kd{p:Ph}{r:List Pa}{bls:List (List eM)}(hB:∀l,l∈bls->lB l):iZ (.mk p r bls):=by
 intro w E bf bl b P st lv done hn hf hs hp hrep hok
 obtain⟨i0,hi,hz0,hz1,hz2⟩:=info_parts nA
 obtain⟨Q,sr,sb,vs,hPb,hS,hrow,hbrow,hTB,hsep⟩:∃Q sr sb vs,P b/\aM w b (bK p sr sb)/\dL w P 258 4 sr r.length (eF r)/\dL w P 104 1 sb bls.length vs/\dM w Q vs bls/\Gv P Q b sr sb:=by
  cases hrep with
  |mk a1 a2 a3 a4 a5 a6=>exact⟨_,_,_,_,a1,a2,a3,a4,a5,a6⟩
 rw[wj]at hok
 obtain⟨hph,hbok,hbl6⟩:=hok
 obtain⟨pr,cr,rfl⟩:=aI hrow.1
 obtain⟨pb,cb,rfl⟩:=aI hbrow.1
 obtain⟨pl,cl,rfl⟩:=aI hn.own
 have HF:Hid (SF E bf bl b P Q (.slice pr r.length cr) (.slice pb bls.length cb)):=⟨hs,hp,hPb,hrow.2,hsep⟩
 have hb:=hp b hPb
 obtain⟨HBB,HPH,HBO⟩:=bY hB hph hbok
 have hpl:=hn.pl
 have h48:=hn.p48
 have hle:=hn.le
 have hnb0:w.cell? (Ad E.bn 0)=some (aF E.bp):=hn.nb.nb.cell 0
 have hpb1:w.cell? (Ad E.bp 1)=some (.slice pl done.length cl):=hn.pb.cell 1
 have hb1:w.cell? (Ad b 1)=some (aB p.place):=hS.cell 1
 have hbf:=hS.fz
 have n1:b≠E.bn:=hb.2.1
 have n2:b≠E.bp:=hb.2.2.2.1
 have hdl:done.length<=48:=by omega
 have HEQ:Hid (zD E.f E.np st (.mk p r bls)=match jt E.f E.np st p r with|.error e=>.error e|.ok (st1,p',r')=>match nR E.f E.np st1 bls with|.error e=>.error e|.ok (st2,bls')=>.ok (st2,.mk p' r' bls')):=by show _=_;rw[zD];try rfl
 have hk1:aC (aK b) w (w.setCell (Ad b 1) (aB done.length)):=(aC.refl (aK b) w).set1 1 _
 have HU1:Hid (SU w (w.setCell (Ad b 1) (aB done.length)) E bf bl b P Q {p with place:=st.pl} (.slice pr r.length cr) (.slice pb bls.length cb) r vs bls st (.slice pl done.length cl) done):=by
  have h0:SU w w E bf bl b P Q p (.slice pr r.length cr) (.slice pb bls.length cb) r vs bls st (.slice pl done.length cl) done:=⟨hn,hf,hS,hrow.1,hbrow,hTB,aC.refl _ _⟩
  refine h0.named HF hk1 ?_
  rw[hpl]
  exact hS.set 1 _ (show 1< 14 by decide)
 have HPL:=aG hpl
 clear hpl h48
 clear hn hf hs hp hrep hS hrow hbrow hTB hsep hph hbok hB hk1 hb hPb
 by_cases e48:done.length=48
 ·have hb48:((done.length:Int)==48)=true:=by rw[beq_iff_eq];omega
  have HE:Hid (zD E.f E.np st (.mk p r bls)=.error (8,p.at_)):=by show _=_;rw[HEQ.out];unfold jt;rw[if_pos (by have:=HPL.out;omega)]
  have ha0:(w.setCell (Ad b 1) (aB done.length)).cell? (Ad b 0)=some (aB p.at_):=HU1.bk.cell 0
  clear e48
  go_in
  go_wp2_with fail
  refine(cO 8 p.at_ _).mono ?_
  rintro e w2 ⟨⟨b2,rfl,h3⟩,h4⟩
  replace h3:=aG h3
  replace h4:=aG h4
  go_wp2_with fail
  exact⟨rfl,HU1.kp.below (by simpa[World.setCell,Bw]using h4.out),.inr ⟨8,p.at_,HE,b2,rfl,h3⟩⟩
 have hb48:((done.length:Int)==48)=false:=by rw[beq_eq_false_iff_ne];omega
 have HN48:=aG e48
 clear e48
 go_in
 go_upto_region 3 with fail
 have hsz:(w.setCell (Ad b 1) (aB done.length)).heap.size=w.heap.size:=by simp[World.setCell]
 have q0:(w.setCell (Ad b 1) (aB done.length)).cell? (Ad E.bn 0)=some (aF E.bp):=HU1.nw.nb.nb.cell 0
 have q1:(w.setCell (Ad b 1) (aB done.length)).cell? (Ad E.bp 1)=some (.slice pl done.length cl):=HU1.nw.pb.cell 1
 have qf:=HU1.nw.pb.fz
 have hlt1:=HU1.nw.pb.lt
 have hlt2:=HU1.nw.nb.nb.lt
 have hown1:=HU1.nw.own
 have hle1:=HU1.nw.le
 generalize hw1:w.setCell (Ad b 1) (aB done.length)=w1 at *
 replace hw1:=aG hw1
 clear hnb0 hpb1 hb1 hbf hsz
 have HQ:Hid (∀w3,aC (fun k=>Value.ownBlock (.slice pl done.length cl)=some k) w1 w3->w3.cell? (Ad E.bn 0)=some (aF E.bp)/\w3.cell? (Ad E.bp 1)=some (.slice pl done.length cl)/\∀j,w3.frozen? (Ad E.bp j)=false):=fun w3 hk3=>by
  have hsy:=HF.sy.lt
  have hnB:∀k,Value.ownBlock (.slice pl done.length cl)=some k->E.B<=k:=fun k hk=>(hown1.lt k hk).1
  have m1:¬Value.ownBlock (.slice pl done.length cl)=some E.bn:=fun e=>by have:=hnB E.bn e;omega
  have m2:¬Value.ownBlock (.slice pl done.length cl)=some E.bp:=fun e=>by have:=hnB E.bp e;omega
  exact⟨by rw[hk3.cell (p:=Ad E.bn 0) hlt2 m1];exact q0,by rw[hk3.cell (p:=Ad E.bp 1) hlt1 m2];exact q1,fun j=>by rw[hk3.frozen (p:=Ad E.bp j) hlt1 m2];exact qf j⟩
 go_cut []from 8 (fun wx=>∃p3 c3,Hid (SU w wx E bf bl b P Q {p with place:=st.pl} (.slice pr r.length cr) (.slice pb bls.length cb) r vs bls {st with pl:=st.pl+1} (.slice p3 (done.length+1) c3) (done++[b])))
 case first=>
  go_wp2_with fail
  go_region_law (refine bD rfl (.tmp 39) (.tmp 41) 104 rfl E.B 167 i0 (.pointer none) 1 8 Tryz.underlying104 hi hz0 hz1 hz2 rfl (by decide) _ _ _ (by simp[Act.eval,Act.put]) ((gS hown1).alloc _) (Ad w1.heap.size 0) 1 1 [aF b] (by simp[Act.eval,Act.put]) rfl (cF _ _ _ _ (by simp)) (by intro u hu;simp at hu;subst hu;rfl) (by decide) (by unfold maxLen;omega) (by omega) (by simp;omega) ?_;intro l3 w3 hown3 hgrow3 hwh3;obtain⟨p3,c3,rfl⟩:=aI hown3;have hk3:=aC.grown (((aC.refl (fun k=>Value.ownBlock (.slice pl done.length cl)=some k) w1).drew).alloc (.cells #[aF b] 167)) hgrow3 (fun k hk=>.inl hk);obtain⟨q0c,q1c,qfc⟩:=HQ w3 hk3;replace hk3:=aG hk3;replace hown3:=aG hown3;clear hgrow3 hwh3)
  all_goals
  have HX:=aG (HU1.app HF hk3 (by simpa using hown3.out) HN48)
  go_wp2_with fail
  go_meet
  exact⟨p3,c3,HX⟩
 case rest=>
 obtain⟨p3,c3,HU⟩:=hcut
 have hne:b≠bl:=(HF.fp b HF.pb).2.2.2.2.2.1
 have HSP:Hid (st.pl≠48):=fun e=>HN48 (HPL.trans e)
 clear q0 q1 qf hlt1 hlt2 hown1 hle1 hb48 hw1 HQ HU1
 go_wp2_with fail
 refine(Co HU.nw.nb.nm HU.bk HPH.lt HU.fw.hc HU.fw.lc HU.fw.le hne).mono ?_
 rintro e w5 (⟨p2,l2,q1,rfl,g⟩|⟨er,q1,⟨b2,rfl,h3⟩,h4⟩)
 case inr=>
  have HX:=aG (And.intro (HU.kp.below h4) (And.intro (EU (np:=E.np) (r:=r) HSP q1) h3))
  clear q1 h3 h4
  go_wp2_with fail
  refine⟨rfl,HX.1,.inr ⟨er,p.la,?_,b2,rfl,HX.2.2⟩⟩
  rw[HEQ.out,HX.out.2.1]
 case inl=>
 obtain⟨HU2,Q1⟩:=aN (HU.left HF g) q1
 clear q1 g
 go_wp2_with fail
 obtain⟨m2,k2,hp2,hk2⟩:=xv Q1
 have HP2:Hid (p2.wa=p.wa/\p2.na=p.na/\p2.nt=p.nt/\p2.op=p.op/\(p2.kind=p.kind\/p2.kind=3)):=by rw[hp2];exact⟨rfl,rfl,rfl,rfl,hk2⟩
 clear hp2 hk2
 have hq3:∀i,E.Q i->i≠E.bn:=fun i hi=>(HF.sy.q i hi).2.1
 have HQ3:=aG hq3
 clear hq3
 refine(xu HU2.nw.nb HU2.bk n1 (Ne.symm HF.sy.nm) HQ3).mono ?_
 rintro e w6 ⟨hk6,⟨nw,gs,q2,rfl,g⟩|⟨er,q2,b2,rfl,h3⟩⟩
 case inr=>
  have HX:=aG (And.intro (HU2.kp.trans (hk6.mono (fun i e=>.inr (.inl e)))) (And.intro (ET (np:=E.np) (r:=r) HSP Q1 q2) h3))
  clear q2 h3 hk6
  go_wp2_with fail
  refine⟨rfl,HX.1,.inr ⟨er,p.wa,?_,b2,?_,?_⟩⟩
  ·rw[HEQ.out,HX.out.2.1]
  ·rfl
  ·have:=HX.2.2;rw[HP2.out.1]at this;exact this
 case inl=>
 obtain⟨HU3,Q2⟩:=aN (HU2.limits HF hk6 g) q2
 clear q2 g hk6
 go_wp2_with fail
 refine(uY HU3.nw.nb HU3.bk (by rw[HP2.out.2.2.1];exact HPH.nt) n1 ((HF.fp b HF.pb).2.2.2.2.2.2) HF.sy.fm HF.sy.few).mono ?_
 rintro e w7 ⟨hk7,⟨p5,q3,rfl,g⟩|⟨er,q3,b2,rfl,h3⟩⟩
 case inr=>
  have HX:=aG (And.intro (HU3.kp.trans (hk7.mono (fun i e=>.inl (by have e:i=b:=e;rw[e];exact HF.pb)))) (And.intro (ES HSP Q1 Q2 q3) h3))
  clear q3 h3 hk7
  go_wp2_with fail
  refine⟨rfl,HX.1,.inr ⟨er,p.na,?_,b2,?_,?_⟩⟩
  ·rw[HEQ.out,HX.out.2.1]
  ·rfl
  ·have:=HX.2.2;rw[HP2.out.2.1]at this;exact this
 case inl=>
 obtain⟨HU4,Q3⟩:=aN (HU3.named HF hk7 g) q3
 clear q3 g hk7
 obtain⟨m5,hp5⟩:=vd Q3
 have HP5:Hid (p5.kind=1/\p5.op=0->r≠[]):=fun e=>by
  rw[hp5]at e
  refine HPH.r0 ⟨?_,by rw[<-HP2.out.2.2.2.1];exact e.2⟩
  rcases HP2.2.2.2.2 with x|x
  ·rw[<-x];exact e.1
  ·have:=e.1;simp only at this;omega
 clear hp5
 go_wp2_with fail
 refine(uX HU4.nw.nb HU4.fw HU4.bk HU4.row HPH.rs HPH.rl HP5 HF.apart hne).mono ?_
 rintro e w8 ⟨hk8,⟨p6,r6,l6,q4,rfl,hrl,g⟩|⟨er,a,q4,b2,rfl,h3⟩⟩
 case inr=>
  have HX:=aG (And.intro (HU4.kp.trans (hk8.mono (fun i e=>by rcases e with e|e|e;exact .inr (.inr (.inr (.inl e)));exact .inl (by rw[e];exact HF.pb);exact .inl (HF.pr i e)))) (And.intro (ER HSP Q1 Q2 Q3 q4) h3))
  clear q4 h3 hk8
  go_wp2_with fail
  refine⟨rfl,HX.1,.inr ⟨er,a,?_,b2,rfl,HX.2.2⟩⟩
  rw[HEQ.out,HX.out.2.1]
 case inl=>
 obtain⟨HU5,HHP⟩:=aN (HU4.right HF hk8 g) (EP HSP Q1 Q2 Q3 q4)
 have HB0:=aG (HU5.blocks HF HBO)
 have c13:w8.cell? (Ad b 13)=some (.slice pb bls.length cb):=HU5.bk.cell 13
 have HVL:Hid (vs.length=bls.length):=HU5.tb.len
 have HE2:Hid (zD E.f E.np st (.mk p r bls)=match nR E.f E.np ⟨l6,st.pl+1,nw,gs⟩ bls with|.error e=>.error e|.ok (st2,bls')=>.ok (st2,.mk p6 r6 bls')):=by show _=_;rw[HEQ.out,HHP.out]
 replace hrl:=aG hrl
 clear q4 g hk8 HU HU2 HU3 HU4 HU5 Q1 Q2 Q3
 go_wp2_with fail
 clear c13
 go_loopw [64] (fun i wr=>∃(vs1 vs2:List Value) (st1:St) (lv1:Value) (L:List Nat) (l1 l2:List (List eM)) (Q1 Q2:Nat->Prop),i=aB vs1.length/\Hid (SB w wr E bf bl b P Q p6 (.slice pr r.length cr) (.slice pb bls.length cb) r6 vs vs1 vs2 (done++[b]) (nR E.f E.np ⟨l6,st.pl+1,nw,gs⟩ bls) st1 lv1 L l1 l2 Q1 Q2)/\Hid (∀l,l∈l2->lB l)) (fun i _=>bls.length-(intOf i).toNat)
 case atStart=>exact⟨[],vs,_,_,[],[],bls,_,_,rfl,HB0,HBB⟩
 case round=>
  obtain⟨vs1,vs2,st1,lv1,L,l1,l2,Q1,Q2,rfl,HR,HBL⟩:=hrel
  have hev:=HR.ev
  rcases vs2 with _|⟨v,vs2⟩
  ·have hl2:l2=[]:=by have:=HR.t2;cases this;rfl
   have hkl:¬((vs1.length:Int)< (bls.length:Int)):=by rw[<-HVL.out,hev];simp
   clear hev
   go_wp2_with fail
   first|go_end0|refine bodyPost_ret (results_none rfl _ _ _) rfl ?_
   subst hl2
   obtain⟨d1,d2,d3,d4,d5⟩:=HR.done HF
   rw[d1]at HE2
   exact⟨HR.kp,.inl ⟨st1,_,lv1,b::L,HE2,rfl,d2,d3,d4,d5⟩⟩
  ·rcases l2 with _|⟨l,l2⟩
   ·have:=HR.t2;cases this
   have hlen:vs1.length< bls.length:=by rw[<-HVL.out,hev];simp
   have hkl:(vs1.length:Int)< (bls.length:Int):=by omega
   have hvb:∃gv,pb=some (Ad gv 0):=by
    have hbr:=HR.brow.1
    rw[HVL.out]at hbr
    obtain⟨g,c,e⟩:=aO hbr (by omega)
    cases e;exact⟨g,rfl⟩
   obtain⟨gv,rfl⟩:=hvb
   have hcell:wr.cell? (Ad gv vs1.length)=some v:=by
    have h:=HR.brow.1
    rw[HVL.out]at h
    rw[h.cellAt _ (by omega),hev]
    simp
   have hcell':wr.cell? (Ad gv (vs1.length*1))=some v:=by rw[Nat.mul_one];exact hcell
   clear hev
   obtain⟨Qx,Rx,bb,g1,g2,g3,gq,gr⟩:∃(Qx Rx:Nat->Prop) (bb:List Nat),dL wr Q2 167 1 v bb.length (fg bb)/\cV wr Qx bb l/\dM wr Rx vs2 l2/\(∀i,Qx i->Q2 i/\v.ownBlock≠some i/\¬Rx i)/\(∀i,Rx i->Q2 i/\v.ownBlock≠some i):=by
    have:=HR.t2
    cases this with
    |cons h1 h2 h3 hq hr=>exact⟨_,_,_,h1,h2,h3,hq,hr⟩
   have hpok:=HR.ok
   rw[nD]at hpok
   have hQ2:∀i,Q2 i->P i:=fun i hi=>(HF.sep.q i (HR.q2 i hi)).1
   obtain⟨HC,HG⟩:=aN (HBL l (by simp) wr E bf bl Qx (fun i=>v.ownBlock=some i) bb v st1 lv1 (done++[b]++L) HR.nw HR.fw HF.sy (fun i hi=>HF.fp i (hQ2 i (gq i hi).1)) (fun i hi=>HF.fp i (hQ2 i (g1.2 i hi))) (fun i hi e=>(gq i e).2.1 hi) ⟨g1.1,fun i hi=>hi⟩ g2 hpok.1.1 hpok.1.2) (And.intro g1 (And.intro g3 (And.intro gq gr)))
   have HWQ:Hid (∀i,jZ E bl Qx i->jZ E bl P i):=jZ.mono (fun i hi=>hQ2 i (gq i hi).1)
   clear g1 g2 g3 gq gr hpok hQ2
   go_wp2_with fail
   refine HC.mono ?_
   rintro e w9 ⟨hk9,⟨st2,l',lv2,L2,e2,rfl,n2,f2,t2,d2⟩|⟨er,a,e2,b2,rfl,h3⟩⟩
   ·have HN:=aG (HR.next HF HG.1 HG.2.1 HG.2.2.1 HG.2.2.2 hk9 e2 n2 f2 t2 d2)
    have HBL2:Hid (∀x,x∈l2->lB x):=fun x hx=>HBL x (by simp[hx])
    clear hk9 e2 n2 f2 t2 d2
    go_wp2_with fail
    go_roundw
    case rel=>exact⟨vs1++[v],vs2,st2,lv2,L++L2,l1++[l'],l2,_,_,by simp,HN,HBL2⟩
    case measure=>simp[intOf];omega
   ·have HE3:Hid (nR E.f E.np ⟨l6,st.pl+1,nw,gs⟩ bls=.error (er,a)):=by show _=_;rw[HR.out.eq,nR,e2]
    have HK:=aG (HR.kp.trans (hk9.mono HWQ))
    replace h3:=aG h3
    clear hk9 e2
    go_wp2_with fail
    refine⟨rfl,HK,.inr ⟨er,a,?_,b2,rfl,h3⟩⟩
    rw[HE2.out,HE3.out]
end
theorem zI(s:eM):iZ s:=by
 refine eM.rec (motive_1:=fun s=>iZ s) (motive_2:=fun E=>∀l,l∈E->∀s,s∈l->iZ s) (motive_3:=fun l=>∀s,s∈l->iZ s) ?_ ?_ ?_ ?_ ?_ s
 ·intro p r H F
  exact Kd (fun l B=>Cc (F l B))
 ·intro l B;simp at B
 ·intro l E D C x A
  rcases List.mem_cons.1 A with rfl|A
  ·exact D
  ·exact C x A
 ·intro s G;simp at G
 ·intro s l D C x A
  rcases List.mem_cons.1 A with rfl|A
  ·exact D
  ·exact C x A
theorem xp(l:List eM):lB l:=Cc (fun s _=>zI s)
end Go.Proofs.YtajfbbldaiaolaaGreatDoor
