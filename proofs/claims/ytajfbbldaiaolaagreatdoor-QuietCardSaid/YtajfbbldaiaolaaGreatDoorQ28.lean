import Derived.Test.YtajfbbldaiaolaaGreatDoorQ16
import Derived.Test.YtajfbbldaiaolaaGreatDoorQ27
set_option linter.unusedSimpArgs false
set_option linter.unusedVariables false
set_option maxRecDepth 100000
set_option maxHeartbeats 2000000
namespace Go.Proofs.YtajfbbldaiaolaaGreatDoor
open Go.RowKit Go.Shelf
variable {w:World}
instance(a b:wC):Decidable (a=b):=decidable_of_iff (a.a=b.a/\a.b=b.b/\a.new=b.new/\a.field=b.field/\a.ra=b.ra/\a.rb=b.rb/\a.la=b.la/\a.lb=b.lb) ⟨fun⟨h1,h2,h3,h4,h5,h6,h7,h8⟩=>by cases a;cases b;simp only at h1 h2 h3 h4 h5 h6 h7 h8;subst h1 h2 h3 h4 h5 h6 h7 h8;rfl,fun h=>by subst h;exact⟨rfl,rfl,rfl,rfl,rfl,rfl,rfl,rfl⟩⟩
def iE(l:aJ)(want:List wC):Bool:=
 decide (l.length<=700)&&(cL (ic l)).2.v.ok&&BK ((cL (ic l)).1.map jE)&&(match vi l with|some z=>decide (wv z.1 z.2.length)|none=>false)&&decide (FR (gi l) (gi l).cX)&&decide (FP (gi l).cX (gi l).cX.cC ((gi l).cX.cSh (gi l).cX.cC))&&decide (FO (gi l).cX)&&decide (FN (gi l).cX)&&decide (FM (gi l).cX (gi l).cX.cC (gi l).cX.cHeld ((gi l).cX.cAbout (gi l).cX.cC))&&decide (wy (gi l).cX ((gi l).cX.accs (gi l).cX.cC ((gi l).cX.cSh (gi l).cX.cC)))&&decide (pE l=want)
theorem eN{l:aJ}{A:List wC}(h:iE l A=true):jS l A:=by
 unfold iE at h
 simp only[Bool.and_eq_true,decide_eq_true_eq]at h
 obtain⟨⟨⟨⟨⟨⟨⟨⟨⟨⟨L,K⟩,hp⟩,B⟩,J⟩,H⟩,G⟩,F⟩,E⟩,D⟩,C⟩:=h
 refine⟨L,K,hp,?_,?_,J,H,G,F,E,D,C⟩
 ·cases e:vi l with
  |none=>rw[e]at B;cases B
  |some z=>rfl
 ·cases e:vi l with
  |none=>rw[e]at B;cases B
  |some z=>
   rw[e]at B
   exact of_decide_eq_true B
structure Dw(w W:World)(l:aJ)(bx:Nat):Prop where
 kp:Below w.heap.size w W
 ex:∃bq bp,W.cell? ⟨bx,0,none⟩=some (aF bq)/\W.cell? ⟨bq,0,none⟩=some (aF bp)/\∀V,Below W.heap.size W V->Calls Tryz.prog 46 #[aF bp] V fun r V'=>∃bF,r=.returned (aF bF)/\nH V' bF (gi l)/\Below V.heap.size V V'
theorem Dw.below{W W':World}{l:aJ}{a:Nat}(h:Dw w W l a)(k:Bw W W'):Dw w W' l a:=by
 obtain⟨E,F,D,C,B⟩:=h.ex
 exact⟨h.kp.trans (k.mono h.kp.size),E,F,bc k D,bc k C,fun V A=>B V (k.trans (A.mono k.size))⟩
theorem xe{l:aJ}{B:List wC}(ok:jS l B)(w:World):
  Ca 7 #[.string ⟨l.toArray⟩] w fun q K=>∃bP,q=.returned (.tuple #[aF bP,aB 0,aB 0])/\Dw w K l bP:=by
 obtain⟨⟨H,J⟩,A⟩:=Option.isSome_iff_exists.1 ok.ld
 refine(zv (w:=w) ok.len ok.read ok.pds A).mono ?_
 rintro q Q ⟨G,N,O,rfl,E,P,F,D⟩
 have L:gi l=(Ky H J.length).fl:=by unfold gi;rw[A]
 have C:wv H J.length:=by have:=ok.flw;rw[A]at this;exact this
 refine⟨N,rfl,G,O,P,E.cell 0,F.cell 0,fun V M=>?_⟩
 have:=Iy (D.keep (w':=V) (P':=fun _=>True) (S:=fun _=>False) (aC.of_below M) (fun _ _=>⟨fun h=>h,trivial⟩)) C
 rw[<-L]at this
 exact this
theorem sJ{W:World}{l:aJ}{A:List wC}{bP:Nat}(ok:jS l A)(F:Tz w)(hg:0< w.heap.size)(h:Dw w W l bP):
  Ca 8 #[aF bP] W fun q W'=>∃C B,q=.returned C/\B.map (·.1)=A/\tW W W' C B/\Dw w W' l bP:=by
 obtain⟨K,L,J,H,G⟩:=h.ex
 refine(vn (w:=W) bP K L ((gi l).cX.cSh (gi l).cX.cC) G ok.nr ok.al (F.below h.kp) (Nat.lt_of_lt_of_le hg h.kp.size) J H).mono ?_
 rintro q W' ⟨C,rfl,B,E,D⟩
 exact⟨C,B,rfl,E.trans ok.reps,D,h.below D.kp⟩
def iq(l:aJ):Bool:=match(gi l).begins[(gi l).main]? with
 |some p=>Nat.blt 0 (gi l).begins.length&&Nat.blt 0 (gi l).stmts.length&&uB (Hb (gi l)) 400 0 [pS p]
 |none=>false
theorem Fo{l:aJ}{C:List wC}(ok:jS l C)(H:Tz w)(hg:0< w.heap.size)(D:iq l=true):
  Ca 10 #[.string ⟨l.toArray⟩] w (Rt w (.bool true)):=by
 unfold iq at D
 split at D
 ·rename_i p hp
  simp only[Bool.and_eq_true,Nat.blt_eq]at D
  refine IB (R1:=fun A b=>Dw w A l b) (R2:=fun A b=>Dw w A l b) (xe ok w) (fun A b h=>(sJ ok H hg h).mono ?_) (fun A b h=>?_) D.2
  ·rintro q W' ⟨G,Q,rfl,_,_,J⟩
   exact⟨G,rfl,J⟩
  ·obtain⟨R,S,P,O,N⟩:=h.ex
   refine(Ep (y:=Hb (gi l)) P O ((N A (Below.refl _ _)).mono ?_) hp).mono ?_
   ·rintro q T ⟨F,rfl,L,E⟩
    exact⟨F,rfl,Ej L (by omega) (by omega),E⟩
   ·rintro q w' ⟨b,B,F,rfl,K,M,E⟩
    exact⟨b,B,F,rfl,K,M,h.kp.trans (E.mono h.kp.size)⟩
 ·cases D
theorem Ik{k n:Nat}(R:k< 12)(Q:n< 4)(ok:jS (eB k n) [])(N:iq (eB k n)=true)(G:Tz w)(hg:0< w.heap.size):
  Calls Tryz.prog 5 #[aB k,aB n] w (Rt w (.bool true)):=by
 obtain⟨a,X⟩:=aN (Kr k n R Q w) (xe ok w)
 have Y:Hid (∀W b,Dw w W (eB k n) b->_):=fun W b h=>sJ (W:=W) (bP:=b) ok G hg h
 have Z:Hid (∀W,Bw w W->_):=fun W L=>Fo (w:=W) ok (G.below L) (Nat.lt_of_lt_of_le hg L.size) N
 clear ok N G
 generalize eB k n=l at *
 go_in
 go_wp2_with fail
 refine a.mono ?_
 rintro q P ⟨rfl,rfl⟩
 go_wp2_with fail
 refine X.mono ?_
 rintro q V ⟨bP,rfl,E⟩
 have H:=aG E
 clear E
 go_wp2_with fail
 refine(Y V bP H).mono ?_
 rintro q T ⟨e,d,rfl,M,O,D⟩
 have A:=O.own
 rw[List.map_eq_nil_iff]at M
 subst M
 obtain⟨p,c,rfl⟩:=aI A
 have B:=D.kp
 obtain⟨J,F⟩:=aN (Z T B) B
 clear A O D B
 go_wp2_with fail
 refine J.mono ?_
 rintro q S ⟨rfl,C⟩
 have K:Hid (Bw P S):=F.trans (C.mono F.size)
 clear C
 go_wp2_with fail
 go_ret
 exact⟨rfl,K⟩
def IN:aJ:=[118,97,114,32,103,59,102,117,110,99,32,119,40,41,123,103,61,49,59,125,102,117,110,99,32,109,97,105,110,40,41,123,103,111,32,119,40,41,59,103,61,50,59,125]
theorem Il{r:wC}(ok:jS IN [r])(N:r.a=0)(M:r.b=2)(J:Tz w)(hg:0< w.heap.size):
  Calls Tryz.prog 4 #[] w (Rt w (.bool true)):=by
 have P:=aG (xe ok w)
 have Q:Hid (∀W b,Dw w W IN b->_):=fun W b h=>sJ (W:=W) (bP:=b) ok J hg h
 clear ok J
 go_in
 go_wp2_with fail
 refine P.mono ?_
 rintro q O ⟨bP,rfl,C⟩
 have F:=aG C
 clear C
 go_wp2_with fail
 refine(Q O bP F).mono ?_
 rintro q L ⟨R,D,rfl,E,K,B⟩
 obtain⟨⟨H,S,lb⟩,rfl,rfl⟩:∃x,D=[x]/\x.1=r:=by
  rcases D with _|⟨x,_|⟨y,D⟩⟩
  ·cases E
  ·exact⟨x,rfl,by simpa using E⟩
  ·simp at E
 have A:=K.own
 obtain⟨g,c,rfl⟩:=aO A (by simp)
 have V:L.cell? (Ad g 0)=some (aB 0):=by rw[gg A (i:=0) (v:=aB H.a) rfl,N];rfl
 have T:L.cell? (Ad g 1)=some (aB 2):=by rw[gg A (i:=1) (v:=aB H.b) rfl,M];rfl
 have G:=aG B.kp
 clear A K B
 go_wp2_with fail
 go_ret
 exact⟨rfl,G⟩
end Go.Proofs.YtajfbbldaiaolaaGreatDoor
