import Derived.RangeFuncNested
import Derived.Laws.EntriesVeiled
import Derived.Test.YtajfbbldaiaolaaGreatDoorQ14
import Derived.Test.YtajfbbldaiaolaaGreatDoorQ23
set_option linter.unusedSimpArgs false
set_option linter.unusedVariables false
set_option maxRecDepth 100000
set_option maxHeartbeats 4000000
namespace Go.Proofs.YtajfbbldaiaolaaGreatDoor
open Go.RowKit Go.Shelf
variable {L R l:List Nat}{a b c d e g j m n s:Nat}{w:World}{x:Rp}
section
attribute [local go_sem] Oper.semAt_some
attribute [local go_sem ↓ high] oA
attribute [local go_sem] uE
theorem xY:(Tryz.prog.info? 3).map (fun i=>(i.zero,i.size,i.bytes))=some (some (aB 0),1,8):=by kernel_rfl
theorem Dd(h:cA w a x)(C:s< x.stmts.length)(E:(x.st s).p.nn< 64):
  Calls Tryz.prog 155 #[aF a,aB s] w (Ru w (aH (aW (x.st s).p.nn))):=by
 obtain⟨g,c,b,sr,sb,O,N,M,L,K,A,D⟩:=h.stm C
 have F:Ce w b 11 (aB (x.st s).p.nn):=A.cell 11
 have J:=A.lt
 have G:=aG (pO (x.st s).p.nn E w)
 clear h A D
 go_in
 go_wp2_with fail
 refine G.mono ?_
 rintro r B ⟨rfl,H⟩
 subst B
 go_wp2_with fail
 go_ret
 exact⟨rfl,rfl⟩
theorem BC(s:Nat)(S:s< ec)(hg:0< w.heap.size)(Z:Tz w):
  Ca 104 #[aH s] w fun r w'=>∃v,r=.returned v/\w'.ownsRow w.heap.size 3 1 v (et s).length (dG (et s))/\Bw w w':=by
 obtain⟨b,g,R,Q,O⟩:=info_parts xY
 refine(callsIn_wide (n:=3)).1 ?_
 refine callsIn_of_wp_marks Tryz.func104 rfl trivial ?_ rfl
 simp only[Tryz.ntmps104,List.size_toArray,List.length_cons,List.length_nil,Nat.reduceAdd,Nat.reduceSub,Array.replicate_succ,Array.replicate_zero,List.push_toArray,List.append_toArray,List.nil_append,List.cons_append]
 have q:=aG Z
 clear Z
 gi_wp2_with (refine⟨trivial,?_⟩;gi_at_call 170;refine(CY _ _ _).mono ?_;rintro e w' ⟨rfl,rfl⟩)
 have o:=Boxed.new w 30 (.slice none 0 0)
 have a:=Boxed.new (w.alloc (.cells #[.slice none 0 0] 30)) 227 (aH s)
 rw[World.size_alloc]at a
 have L:Bw w ((w.alloc (.cells #[.slice none 0 0] 30)).alloc (.cells #[aH s] 227)):=(ba w _).alloc (by simp) _
 refine wpIn_rangeFunc_ownG rfl (by decide) (gf:=242) (lb:=#[Pt (w.heap.size+1) 0]) rfl trivial (enters_of Tryz.func242 (by kernel_rfl) rfl)
  (wQ 2 (by decide) (w.heap.size+1) w.heap.size s S _ (by simp) (by simp;omega) hg a.cell (q.below L)) belowK_t (belowK_b (by simp;omega)) (Below.refl _ _) (fun _=>rfl)
  (fun A W=>wg w.heap.size w.heap.size 30 3 A.length (dG (A.map (·.1))) W/\Bw w W)
  (fun _ _ _=>False)
  (OwnFrom.and (Own.from (rG _ _ _ _ _ _) _) (ownFrom_below (Nat.le_refl _) (by simp;omega)))
  (fun _ _ _ _ _ S _ _=>S)
  ⟨⟨_,o.alloc _,World.ownsRow_nil _ _ _ _⟩,L⟩
  (fun z=>{tmps:=#[aH s,undef,.slice none 0 0,Pt w.heap.size 0,aB z.1,aH s,.func (.func 242) #[] #[Pt (w.heap.size+1) 0],aB z.1,undef,undef,undef,undef,undef],defers:=[]}) ?assign ?body ?done ?stop
 case assign=>
  intro l z W K J
  gi_wp2
  exact J
 case body=>
  rintro l A z W ⟨⟨v,F,C⟩,hB⟩ hlt
  have d:A.length< 64:=hlt
  have N:=hB.size
  have c1:=F.cell
  have V:=iw C F (by decide)
  obtain⟨x,E,B,r1,r2,-⟩:=run_append_own (P:=Tryz.prog) (W.alloc (.cells #[aB z.1] 3)) w.heap.size 30 30 3 b (aB 0) 1 8 Tryz.underlying30 g R Q O rfl (by decide) v _ _ (C.alloc _) (Ad W.heap.size 0) 1 1 [aB z.1] rfl (cF _ _ _ _ (by simp)) (by intro u Y;simp at Y;subst Y;rfl) (by unfold maxLen;omega) (by omega) (by simp;omega)
  have G:=(F.alloc (.cells #[aB z.1] 3)).kept r2 (fun e=>V e.symm)
  have k1:=G.cell
  have k2:=G.frozen
  obtain⟨H,M,rfl⟩:=aI r1
  obtain⟨q1,q2,y⟩:=yX B
  have T:Hid (KeepsFrom ((w.alloc (.cells #[.slice none 0 0] 30)).alloc (.cells #[aH s] 227)).heap.size W (E.setCell (Ad w.heap.size 0) (.slice H (A.length+1) M))/\Below w.heap.size W (E.setCell (Ad w.heap.size 0) (.slice H (A.length+1) M))/\wg w.heap.size w.heap.size 30 3 (A++[z]).length (dG ((A++[z]).map (·.1))) (E.setCell (Ad w.heap.size 0) (.slice H (A.length+1) M))/\Bw w (E.setCell (Ad w.heap.size 0) (.slice H (A.length+1) M))):=by
   have X:Below w.heap.size W (E.setCell (Ad w.heap.size 0) (.slice H (A.length+1) M)):=(((Below.refl w.heap.size W).alloc N _).grown r2 (by simp;omega) (fun k e=>(C.lt k e).1)).setCell (p:=Ad w.heap.size 0) (Nat.le_refl _) _
   refine⟨?_,X,⟨_,G.set _,?_⟩,hB.trans X⟩
   ·exact(((KeepsOthers.alloc _ _).trans (jM (C.alloc _) r2)).trans (KeepsOthers.setCell _ _ _)).from _
   ·have m:(A++[z]).length=A.length+1:=by simp
    have j:dG ((A++[z]).map (·.1))=dG (A.map (·.1))++[aB z.1]:=by simp[dG]
    rw[m,j]
    exact r1.kept (row:=some w.heap.size) (grownBy_setCell' E _ _) (.inr (iw r1 G (by decide)))
  clear B r1 r2 G F C hB V
  gi_wp2
  exact T
 case done=>
  rintro D t W i rfl ⟨⟨v,F,C⟩,hB⟩ J
  have hc:=F.cell
  gi_wp2
  refine⟨by simp,.inl ⟨_,_,rfl,run_takeDeferred J,?_⟩⟩
  refine⟨_,results_tmp rfl _ _ _,⟨_,rfl,?_,?_⟩⟩
  ·have f:(yT s).length=(et s).length:=by rw[<-dO,List.length_map]
   rw[dO,f]at C
   exact sI C J rfl _
  ·exact hB.trans (belowK_b (w:=w) (Nat.le_refl _) W D _ _ (by simp at i;omega) J rfl rfl)
 case stop=>
  rintro D c A W _ _ h _
  exact h.elim
end
namespace Rp
def heldB(x:Rp)(all:Nat)(un l:List Nat)(s:Nat):Nat:=
 if(x.st s).p.kind=9 then fV (l.getD s 0) (aW (x.st s).p.nn)else if(x.st s).p.kind=10 then ew (l.getD s 0) (aW (x.st s).p.nn)else if x.isCall s then fV (mN dT l all (et (x.returnsOf (x.st s).p.nn))) (ew (l.getD s 0) (un.getD (x.st s).p.nn 0))else l.getD s 0
def aboutB(x:Rp)(cs:List Nat)(l:List Nat)(s:Nat):Nat:=match x.startAt s with
 |some k=>fV (fV (l.getD s 0) (aW k)) (x.below.getD k 0)
 |none=>if x.isCall s then mN fV l 0 (et (x.returnsOf (x.st s).p.nn))else ew (l.getD s 0) (x.joinedOf cs s)
end Rp
theorem rh:Et 154:=enters_of Tryz.func154 (by kernel_rfl) rfl
theorem ru:Et 161:=enters_of Tryz.func161 (by kernel_rfl) rfl
theorem Ku{i k:Nat}(h:cA w d x)(ok:ft x)(sp:cP x)(hT:Tz w)(hg:0< w.heap.size)(O:∀s,s< 64->x.spots.testBit s=true->s< 53)(z:aM w i #[aF d,aH k,.func (.func 150) #[] #[]])(c4:w.cell? (Ad j 0)=some (.slice (some (Ad m 0)) x.begins.length n))(hu:∀f,f< x.begins.length->w.cell? (Ad m f)=some (aH (L.getD f 0:Nat)))(Z:s< x.stmts.length)(a3:s< 53)(V:aM w a (aE l))(hl:l.length=53)(r:w.cell? (Ad e 0)=some (aF d))(J:x.isCall s=true->(x.st s).p.nn< x.begins.length)(hn:(x.st s).p.nn< 64):
  Calls Tryz.prog 154 #[Pt a 0,aB s,Pt e 0,Pt i 0,Pt j 0] w (Rt w (aH (x.heldB k L l s:Nat))):=by
 have r1:=ff
 have r2:=iK
 obtain⟨g,c,t,sr,sb,z3,z4,z5,z6,z7,B,-⟩:=h.stm Z
 have a0:((s:Nat):Int)< 53:=by omega
 have Q:w.cell? (Ad a s)=some (aH (l.getD s 0:Nat)):=(V.cell _).trans (bU (by omega))
 have a2:=V.lt
 have a4:e< w.heap.size:=aD r
 have T:Hid (∀W,Bw w W->Ca 155 #[aF d,aB s] W (Ru W (aH (aW (x.st s).p.nn:Nat)))):=fun W D=>Dd (h.keep D) Z hn
 have G:=aG (mP h Z)
 have HH:Hid (∀W,Bw w W->Ca 157 #[.agg #[aF d,aH k,.func (.func 150) #[] #[]],Pt a 0,aB (x.st s).p.nn] W (Rt W (aH (mN dT l k (et (x.returnsOf (x.st s).p.nn)):Nat)))):=fun W D=>JJ (h.keep D) ok sp hn (V.below D) hl O (hT.below D) (Nat.lt_of_lt_of_le hg D.size)
 obtain⟨R,HU,HC⟩:=bY z hu J
 unfold Rp.heldB
 generalize l.getD s 0=N at *
 clear h V z hu J ok sp hT
 by_cases K:(x.st s).p.kind=9
 ·have d2:w.cell? (Ad t 2)=some (aB 9):=by rw[B.cell 2];simp[bK,K]
  simp only[if_pos K]
  clear B K
  go_in
  go_wp2_with fail
  go_region_held3 (fun w'=>Ce w' a s (aH (N:Nat))/\Ce w' e 0 (aF d)) (first|exact⟨Q,r⟩|go_keep) (first|(go_at_call 155;refine(T _ (Below.refl _ w).drew).mono ?_;rintro q X ⟨rfl,hq⟩;subst X))
  all_goals go_wp2_with fail
  all_goals go_ret
  all_goals exact⟨rfl,(Below.refl _ w).drew⟩
 ·simp only[if_neg K]
  by_cases F:(x.st s).p.kind=10
  ·have d2:w.cell? (Ad t 2)=some (aB 10):=by rw[B.cell 2];simp[bK,F]
   simp only[if_pos F]
   clear B K F
   go_in
   go_wp2_with fail
   go_region_held3 (fun w'=>Ce w' a s (aH (N:Nat))/\Ce w' e 0 (aF d)) (first|exact⟨Q,r⟩|go_keep) (first|(go_at_call 155;refine(T _ (Below.refl _ w).drew).mono ?_;rintro q X ⟨rfl,hq⟩;subst X))
   all_goals go_wp2_with fail
   all_goals go_ret
   all_goals exact⟨rfl,(Below.refl _ w).drew⟩
  ·have d2:Ce w t 2 (aB (x.st s).p.kind):=B.cell 2
   have e9:(((x.st s).p.kind:Int)==9)=false:=by rw[beq_eq_false_iff_ne];omega
   have a5:(((x.st s).p.kind:Int)==10)=false:=by rw[beq_eq_false_iff_ne];omega
   simp only[if_neg F]
   clear B K F
   cases J:x.isCall s
   ·rw[J]at G
    go_in
    go_wp2_with fail
    refine G.mono ?_
    rintro q M ⟨rfl,A⟩
    have a6:Ce M a s (aH (N:Nat)):=bc A Q
    have H:=aG A
    clear A
    go_wp2_with fail
    go_ret
    exact⟨rfl,H⟩
   ·rw[J]at G
    have o:=HC J
    have a1:(((x.st s).p.nn:Nat):Int)< (x.begins.length:Int):=by omega
    have P:=HU _ o
    generalize mN dT l k (et (x.returnsOf (x.st s).p.nn))=rv at *
    generalize L.getD (x.st s).p.nn 0=y at *
    generalize(x.st s).p.nn=f at *
    have S:Hid (∀W,Bw w W->Ce W a s (aH (N:Nat))/\Ce W i 0 (aF d)/\Ce W i 1 (aH k)/\Ce W i 2 (.func (.func 150) #[] #[])/\Ce W j 0 (.slice (some (Ad m 0)) x.begins.length n)/\W.cell? (Ad m f)=some (aH (y:Nat))):=fun W D=>by
     have b:=R.below D
     exact⟨bc D Q,b.cell 0,b.cell 1,b.cell 2,bc D c4,bc D P⟩
    clear P Q c4 HU HC R
    go_in
    go_wp2_with fail
    refine G.mono ?_
    rintro q M ⟨rfl,A⟩
    obtain⟨g1,g2,g3,g4,g5,g6⟩:=S M.drew A.drew
    obtain⟨u,H⟩:=aN (HH M.drew A.drew) A
    clear A HH
    go_wp2_with fail
    go_region_held3 (fun w'=>Ce w' a s (aH (N:Nat))/\Ce w' i 0 (aF d)/\Ce w' i 1 (aH k)/\Ce w' i 2 (.func (.func 150) #[] #[])/\Ce w' j 0 (.slice (some (Ad m 0)) x.begins.length n)/\Ce w' m f (aH (y:Nat))) (first|exact⟨e1,e2,e3,e4,e5,e6⟩|exact⟨g1,g2,g3,g4,g5,g6⟩|go_keep) (first|(go_at_call 157;refine u.mono ?_;rintro q Y ⟨rfl,C⟩;have E:Bw w Y:=H.trans ((⟨C.os,C.tape,C.output,C.size,C.block⟩:Bw M Y).mono H.size);have v:=aG E;obtain⟨e1,e2,e3,e4,e5,e6⟩:=S Y E;clear C E))
    all_goals go_wp2_with fail
    all_goals go_ret
    all_goals exact⟨rfl,v⟩
theorem Ja{f:Nat}(h:cA w b x)(ok:ft x)(sp:cP x)(u:Tz w)(hg:0< w.heap.size)(T:∀s,s< 64->x.spots.testBit s=true->s< 53)(m:aM w e #[aF b,aH 0,.func (.func 158) #[] #[]])(hn:(x.st s).p.nn< 64)(t:jd w c b g L)(hs:s< x.stmts.length)(a8:s< 53)(X:aM w a (aE l))(hl:l.length=53)(y:w.cell? (Ad d 0)=some (aF b))(c4:w.cell? (Ad f 0)=some (aF c))(hm:x.starts.length< 64)(V:x.below.length=x.starts.length)(hf:(x.st s).fn< 5)(hj:(x.st s).p.kind=8->0< (x.st s).r.length/\((x.st s).r.getD 0 ⟨[],0,0,0⟩).num< 6)(hk:∀k,x.startAt s=some k->k< x.starts.length):
  Calls Tryz.prog 161 #[Pt a 0,aB s,Pt d 0,Pt e 0,Pt f 0] w (Rt w (aH (x.aboutB L l s:Nat))):=by
 have r1:=ff
 have r2:=iK
 obtain⟨bv,sv,tv,rv,a2,Z,-,-,-,-,J⟩:=h.ex
 have a3:((s:Nat):Int)< 53:=by omega
 have c1:w.cell? (Ad a s)=some (aH (l.getD s 0:Nat)):=(X.cell _).trans (bU (by omega))
 have a6:=X.lt
 have a7:=Z.lt
 have aa:d< w.heap.size:=aD y
 have a9:f< w.heap.size:=aD c4
 obtain⟨B,K⟩:=aN (uO (s:=s) h hm) (mP h hs)
 have j:Hid (∀W,Bw w W->Ca 164 #[.agg #[aF b,aH 0,.func (.func 158) #[] #[]],Pt a 0,aB (x.st s).p.nn] W (Rt W (aH (mN fV l 0 (et (x.returnsOf (x.st s).p.nn)):Nat)))):=fun W N=>JI (h.keep N) ok sp hn (X.below N) hl T (u.below N) (Nat.lt_of_lt_of_le hg N.size)
 have R:=aG m
 have HJ:Hid (∀W,Bw w W->Ca 165 #[aF b,aF c,aB s] W (Rt W (aH (x.joinedOf L s)))):=fun W N=>FF (h.keep N) (t.keep N) hs hf hj
 unfold Rp.aboutB
 generalize l.getD s 0=Y at *
 cases D:x.startAt s with
 |some k=>
  have o:=hk k D
  have a4:((k:Nat):Int)< (x.starts.length:Int):=by omega
  obtain⟨G,cl,rfl⟩:=aO J (by omega)
  have c8:w.cell? (Ad b 8)=some (.slice (some (Ad G 0)) x.starts.length cl):=by have:=Z.cell 8;rw[V]at this;exact this
  have v:w.cell? (Ad G k)=some (aH (x.below.getD k 0:Nat)):=by
   rw[J.cellAt _ (by omega)]
   simp[aX,V,o]
  have ab:w.cell? (Ad G (k*1))=some (aH (x.below.getD k 0:Nat)):=by rw[Nat.mul_one];exact v
  have a5:G< w.heap.size:=aD v
  have a0:=aG (kO k (by omega))
  unfold qh at B
  unfold Rp.startAt at B D
  rw[D]at B
  simp only
  generalize x.below.getD k 0=bk at *
  clear h Z J t X D m ok sp u j R
  go_in
  go_wp2_with fail
  refine B.mono ?_
  rintro q M ⟨rfl,n⟩
  subst M
  go_wp2_with fail
  go_region_held3 (fun w'=>Ce w' a s (aH (Y:Nat))/\Ce w' d 0 (aF b)/\Ce w' b 8 (.slice (some (Ad G 0)) x.starts.length cl)/\Ce w' G k (aH (bk:Nat))) (first|exact⟨c1,y,c8,v⟩|go_keep) (first|(go_at_call 163;refine(a0 _).mono ?_;rintro q M ⟨rfl,n⟩;subst M))
  all_goals go_wp2_with fail
  all_goals go_ret
  all_goals exact⟨rfl,(Below.refl _ w).drew⟩
 |none=>
  unfold qh at B
  unfold Rp.startAt at B D
  rw[D]at B
  simp only
  clear h Z J t X D m ok sp u
  cases hc:x.isCall s
  case true=>
   rw[hc]at K
   simp only[if_true]
   go_in
   go_wp2_with fail
   refine B.mono ?_
   rintro q M ⟨rfl,n⟩
   subst M
   go_wp2_with fail
   refine K.mono ?_
   rintro q F ⟨rfl,A⟩
   have i:=R.below A
   have g0:Ce F e 0 (aF b):=i.cell 0
   have g1:Ce F e 1 (aH 0):=i.cell 1
   have g2:Ce F e 2 (.func (.func 158) #[] #[]):=i.cell 2
   obtain⟨z,H⟩:=aN (j F A) A
   clear A j i
   go_wp2_with fail
   refine z.mono ?_
   rintro q S ⟨rfl,C⟩
   have E:Hid (Bw w S):=H.trans (C.mono H.size)
   clear C
   go_wp2_with fail
   go_ret
   exact⟨rfl,E⟩
  rw[hc]at K
  simp only[Bool.false_eq_true,if_false]
  clear j R
  go_in
  go_wp2_with fail
  refine B.mono ?_
  rintro q M ⟨rfl,n⟩
  subst M
  go_wp2_with fail
  refine K.mono ?_
  rintro q F ⟨rfl,A⟩
  have Q:Ce F a s (aH (Y:Nat)):=bc A c1
  have P:Ce F d 0 (aF b):=bc A y
  have O:Ce F f 0 (aF c):=bc A c4
  have a1:=aG (HJ F.drew A.drew)
  have l1:a< F.heap.size:=aD Q
  have l2:d< F.heap.size:=aD P
  have l4:f< F.heap.size:=aD O
  have H:=aG A
  clear A
  go_wp2_with fail
  go_region_held3 (fun w'=>Ce w' a s (aH (Y:Nat))/\Ce w' d 0 (aF b)/\Ce w' f 0 (aF c)) (first|exact⟨e1,e2,e4⟩|exact⟨Q,P,O⟩|go_keep) (first|(go_at_call 165;refine a1.mono ?_;rintro q S ⟨rfl,C⟩;have E:=aG C;have e1:Ce S a s (aH (Y:Nat)):=bc C Q;have e2:Ce S d 0 (aF b):=bc C P;have e4:Ce S f 0 (aF c):=bc C O;clear C))
  all_goals go_wp2_with fail
  all_goals go_ret
  all_goals exact⟨rfl,H.trans ((⟨E.os,E.tape,E.output,E.size,E.block⟩:Bw F S).mono H.size)⟩
section
attribute [local go_sem] Oper.semAt_some
section
variable {F:Fence} {n:Nat} {P:Program}
theorem By{α:Type}{g:Operand}{V:Array Tmp}{E body:Code}{Q:Exit->Act->World->Prop}{a:Act}
  {l₀:Nat} {r₀:Loop} (X:F.round=some l₀) (Z:w.heap[l₀]?=some (.loop r₀)) (s:1<=n) {gf:Nat} {lb:Array Value} (hg:a.eval g=.func (.func gf) #[] lb) (q:F.fn gf) (eg:∀args w,(callFunc gf args).run P w=.ok (.enter gf args) w)
  {H:α->Array Value} {O:World->World->Prop} {S Sp:List α->Prop} {N:Nat} {u:World} (R:SeqStopsK F (n-1) P gf lb H O S Sp N u)
  (f:∀{A B C:World},O A B->O B C->O A C) (j:∀(W:World) (l:Nat) (o o':Obj),w.heap.size<=l->W.heap[l]?=some o->o.isCells=false->o.isWalk=false->O W (W.putObj l o')) (d:Bw u w) (Y:∀x,(H x).size=V.size)
  (I:List α->World->Prop) (T:Code->List α->World->Prop) (hI:OwnFrom w.heap.size I) (m:∀c,OwnFrom w.heap.size (T c)) (h0:I [] w) (i:∀W,O W W) (y:α->Act)
  (G:∀(l:Nat) (x:α) (W:World) (K:Act->World->Prop),K (y x) W->
   E.wpIn (F.inRound l) (n-1-1) P (Exit.then K (fun _ _ _=>False)) {tmps:=(V.zip (H x)).foldl (fun t (p,v)=>t.setIfInBounds p v) a.tmps,defers:=[]} W)
  (M:∀(l:Nat) (D:List α) (x:α) (W:World),w.heap.size<=l->(∃r,W.heap[l]?=some (.loop r))->I D W->D.length< N->body.wpIn (F.inRound l) (n-1-1) P (ownPostG w.heap.size O I T (D++[x]) W) (y x) W)
  (L:∀(z:List α) (W:World),S z->I z W->Q .normal a W)
  (J:∀(c:Code) (D:List α) (W:World),Sp D->T c D W->c.wpIn F n P Q a W):
  (Code.rangeFunc g V E body).wpIn F n P Q a w:=
 wpIn_rangeFunc_ownN X Z s hg q eg R (fun h k=>f h k) j d Y I T hI m h0 (fun x a' _=>a'=y x) (fun _ _ _ _ _ _ hs _ _=>hs)
  (fun l D x W K b hK=>G l x W K (hK _ _ (KeepsFrom.refl _ _) (i W) b rfl)) (fun l D x a' W s h2 b e=>by subst e;exact M l D x W s h2 b) L J
end
theorem zF(x:Rp)(s:Nat):x.nextOf s< ec:=by
 unfold Rp.nextOf
 split
 ·decide
 split
 ·exact kE _ _
 ·exact Nat.mod_lt _ (by decide)
namespace Rp
def cllG(x:Rp)(op:Nat->Nat->Nat)(l:List Nat)(s:Nat):List Nat:=if x.isCall s then qP op l (x.begins.getD (x.st s).p.nn 0) (l.getD s 0)else l
def stepG(x:Rp)(op:Nat->Nat->Nat)(B:List Nat->Nat->Nat)(l:List Nat)(s:Nat):List Nat:=(et (x.nextOf s)).foldl (fun l t=>qP op l t (B l s)) (x.cllG op l s)
def passG(x:Rp)(op:Nat->Nat->Nat)(B:List Nat->Nat->Nat)(S:Nat)(l:List Nat):List Nat:=(et S).foldl (x.stepG op B) l
end Rp
theorem oX(op:Nat->Nat->Nat)(l:List Nat)(a b:Nat):(qP op l a b).length=l.length:=by simp[qP]
theorem vE(x:Rp)(op:Nat->Nat->Nat)(l:List Nat)(s:Nat):(x.cllG op l s).length=l.length:=by
 unfold Rp.cllG
 split
 ·exact oX ..
 ·rfl
theorem rD(x:Rp)(op:Nat->Nat->Nat)(B:List Nat->Nat->Nat)(s:Nat)(l:List Nat):(x.stepG op B l s).length=l.length:=by
 unfold Rp.stepG
 have:∀(ts l:List Nat),(ts.foldl (fun l t=>qP op l t (B l s)) l).length=l.length:=by
  intro ts
  induction ts with
  |nil=>intro l;rfl
  |cons t ts ih=>intro l;rw[List.foldl_cons,ih,oX]
 exact(this _ _).trans (vE x op l s)
theorem AI{F:Fence}{P:Program}{c:Code}{R K:Act->World->Prop}{Q:Exit->Act->World->Prop}{a:Act}(h:c.wpIn F n P (Exit.then R (fun _ _ _=>False)) a w)(B:∀a w,R a w->K a w):c.wpIn F n P (Exit.then K Q) a w:=
 Code.wpIn_mono (by
  intro e a w h
  cases e<;>first|exact B _ _ h|exact h.elim) h
theorem ze{F:Fence}{P:Program}{c:Operand}{u v:Code}{Q:Exit->Act->World->Prop}{a:Act}(h:Hid ((Code.cond c u v).wpIn F n P Q a w)):(Code.cond c u v).wpIn F n P Q a w:=h
theorem Ff{op:Nat->Nat->Nat}(hq:a=224/\b=225/\j=229/\m=399\/a=230/\b=231/\j=233/\m=404)(a0:ke Tryz.prog j 53)(C:∀args w,(callFunc b args).run Tryz.prog w=.ok (.enter b args) w)(c4:∀(w:World) (E bA tq aj:Nat) (l:List Nat),aM w bA (aE l)->l.length=53->tq< 53->w.cell? (Ad E 2)=some (.func (.func d) #[] #[])->Ca b #[aB tq,aH aj,Pt E 0,Pt bA 0] w fun r w'=>r=.returned (.tuple #[])/\aM w' bA (aE (qP op l tq aj))/\aC (aK bA) w w'){o E b2 b3 S:Nat}{B:List Nat->Nat->Nat}{bk:FuncId}{v:Array Value}(h:cA w o x)(ok:ft x)(hS:S< ec)(c7:∀s,s< 64->S.testBit s=true->s< x.stmts.length/\s< 53/\(x.isCall s=true->(x.st s).p.nn< x.begins.length))(an:∀f,f< x.begins.length->x.begins.getD f 0< 53)(hl:l.length=53)
  (cW:w.cell? (Ad E 0)=some (aF o)) (cM:w.cell? (Ad E 2)=some (.func (.func d) #[] #[])) (c2:w.cell? (Ad b2 0)=some (aH S)) (c3:w.cell? (Ad b3 0)=some (.func (.func bk) #[] v))
  (bu:∀s t,s< 64->S.testBit s=true->t< 64->(x.nextOf s).testBit t=true->t< 53)
  (hB:∀(W:World) (l:List Nat) (s:Nat),Bw w W->aM W w.heap.size (aE l)->l.length=53->s< 64->S.testBit s=true->Ca bk (#[Pt w.heap.size 0,aB s]++v) W (Rt W (aH (B l s:Nat))))
  (dr:∀args w,(callFunc bk args).run Tryz.prog w=.ok (.enter bk args) w) (hT:Tz w) (hg:0< w.heap.size):
  Ca a #[.agg (aE l),Pt E 0,Pt b2 0,Pt b3 0] w (Rt w (.agg (aE (x.passG op B S l)))):=by
 obtain⟨bv,sv,tv,rv,lv,h1,h2,-⟩:=h.ex
 have d9:Hid (∀(W:World) (f:Nat),Bw w W->f< x.begins.length->∃gb cb,o< w.heap.size/\gb< w.heap.size/\Ce W o 2 (.slice (some (Ad gb 0)) x.begins.length cb)/\W.cell? (Ad gb f)=some (aB (x.begins.getD f 0:Nat))):=fun W f k hf=>by
  obtain⟨gb,cb,rfl⟩:=aO h2 (by omega)
  have c0:gb< w.heap.size:=(h2.lt gb rfl).2
  refine⟨gb,cb,h1.lt,c0,bc k (h1.cell 2),(k.cell (p:=Ad gb f) c0).trans ?_⟩
  rw[h2.cellAt _ (by omega)]
  simp[dG,hf]
 have cm:=aG an
 have lW:E< w.heap.size:=aD cW
 have l2:b2< w.heap.size:=aD c2
 have l3:b3< w.heap.size:=aD c3
 have cc:Hid (l.length=53):=hl
 obtain⟨D,hD⟩:=bM (((w.alloc (.cells (aE l) j)).alloc (.cells oI j)).alloc (.cells #[.func (.func b) #[] #[Pt E 0,Pt w.heap.size 0]] m))
 have kD:Bw w D:=by rw[hD];exact((ba w _).alloc (by simp) _).alloc (by simp;omega) _
 have dk:w.heap.size+1+1< D.heap.size:=by rw[hD];simp
 have c6:aM D w.heap.size (aE l):=by rw[hD];exact((aM.new w _ _).alloc _).alloc _
 have bs:D.heap[w.heap.size+1]?=some (.cells oI j (0,0)):=by
  rw[hD]
  have:=heap_alloc_new (w.alloc (.cells (aE l) j)) (.cells oI j)
  rw[World.size_alloc]at this
  exact(Below.heap_alloc _ _ _ (by simp)).trans this
 have c1:aM D (w.heap.size+1+1) #[.func (.func b) #[] #[Pt E 0,Pt w.heap.size 0]]:=by rw[hD];exact aM.new' _ _ _ _ (by simp)
 obtain⟨HH,d0,d3,db,ck,d2,HT,ah,da⟩:=xA h c7 bu hB c4 ok hT kD c6
 obtain⟨d1,ch⟩:=aN bs c1
 have r2:Ce D b2 0 (aH S):=bc kD c2
 have a1:=aM.new' ((w.alloc (.cells (aE l) j)).alloc (.cells oI j)) #[.nilFunc] m (w.heap.size+1+1) (by simp)
 have a2:Ce (((w.alloc (.cells (aE l) j)).alloc (.cells oI j)).alloc (.cells #[.nilFunc] m)) (w.heap.size+1+1) 0 .nilFunc:=a1.cell 0
 have a3:=a1.fz 0
 rw[hD]at r2
 have HD:=aG hD
 clear c4 h h1 h2 ok c7 an bu hB hT kD c6 bs c1 a1 hD
 rcases hq with⟨rfl,rfl,rfl,rfl⟩|⟨rfl,rfl,rfl,rfl⟩
 all_goals
  refine(callsIn_wide (n:=5)).1 ?_
  refine callsIn_of_wp_marks (by first|exact Tryz.func224|exact Tryz.func230) rfl trivial ?_ rfl
  simp only[Tryz.ntmps224,Tryz.ntmps230,List.size_toArray,List.length_cons,List.length_nil,Nat.reduceAdd,Nat.reduceSub,Array.replicate_succ,Array.replicate_zero,List.push_toArray,List.append_toArray,List.nil_append,List.cons_append]
  gi_wp2_with (refine⟨trivial,?_⟩;gi_at_call 144;rw[<-HD.out];refine(gJ _ _ _).mono ?_;rintro e w' ⟨rfl,hq⟩;subst w')
  obtain⟨W2,af⟩:=bM (D.alloc (.cells #[aH S] 284))
  have k2:Bw D W2:=by rw[af];exact ba D _
  have bA:Boxed W2 D.heap.size 284 (aH S):=by rw[af];exact Boxed.new _ _ _
  have cu:D.heap.size< W2.heap.size:=bA.lt
  have co:Bw w W2:=ah.trans (k2.mono ah.size)
  rw[<-af]
  clear af r2 a2 a3
  refine wpIn_rangeFunc_ownH rfl (by decide) (gf:=212) (lb:=#[Pt D.heap.size 0]) rfl trivial (enters_of Tryz.func212 (by kernel_rfl) rfl)
   (fI 4 (by decide) D.heap.size w.heap.size S hS _ cu (by omega) hg bA.cell (HT.below co)) belowK_t (belowK_b (by omega)) (Below.refl _ _) (fun _=>rfl)
   (fun V W=>aM W w.heap.size (aE ((V.map (·.1)).foldl (x.stepG op B) l))/\aC (aK w.heap.size) D W)
   (fun _ _ _=>False)
   (OwnFrom.and (eG (by omega)) (eo (by omega)))
   (fun _ _ _ _ _ hs _ _=>hs)
   ⟨da.below k2,aC.of_below k2⟩
   (fun z a' W=>∃p,a'={tmps:=#[.agg (aE l),Pt E 0,Pt b2 0,Pt b3 0,Pt w.heap.size 0,Pt (w.heap.size+1) 0,Pt (w.heap.size+1+1) 0,Pt p 0,undef,undef,undef,.func (.func (AE C)) #[] #[Pt E 0,Pt w.heap.size 0],aH S,.func (.func 212) #[] #[Pt D.heap.size 0],aB z.1,undef,undef,undef,undef,undef,undef,undef,undef,undef,undef,undef,undef,undef,undef,undef,undef,undef,undef,undef,undef,undef,undef,undef,undef,undef,undef,undef,undef,undef,undef,undef,undef,undef,undef],defers:=[]}/\Boxed W p 175 (aB z.1)/\w.heap.size< p)
   (fun z a' _ X Y row hs cz hr=>by
    obtain⟨p,e,hp,cy⟩:=hs
    exact⟨p,e,boxed_own (β:=Unit) p _ (fun _=>_) () X Y row hp cz (fun r e=>(hr r e).2),cy⟩) ?assign ?body ?done ?stop
  case assign=>
   rintro lr V z W K ⟨J,H⟩ O
   have kA:Bw W (W.alloc (.cells #[aB z.1] 175)):=ba W _
   have ad:w.heap.size< W.heap.size:=J.lt
   have:=O {tmps:=#[.agg (aE l),Pt E 0,Pt b2 0,Pt b3 0,Pt w.heap.size 0,Pt (w.heap.size+1) 0,Pt (w.heap.size+1+1) 0,Pt W.heap.size 0,undef,undef,undef,.func (.func (AE C)) #[] #[Pt E 0,Pt w.heap.size 0],aH S,.func (.func 212) #[] #[Pt D.heap.size 0],aB z.1,undef,undef,undef,undef,undef,undef,undef,undef,undef,undef,undef,undef,undef,undef,undef,undef,undef,undef,undef,undef,undef,undef,undef,undef,undef,undef,undef,undef,undef,undef,undef,undef,undef,undef],defers:=[]} _ (bO kA) (kA.mono (by omega)) ⟨J.below kA,H.below kA⟩ ⟨W.heap.size,rfl,Boxed.new _ _ _,ad⟩
   have HK:=aG this
   clear O this J H
   gi_wp2
   exact HK
  case body=>
   rintro lr V z a' W dq ⟨rr,bq⟩ ⟨J,H⟩ ⟨p,rfl,hp,dm⟩ dn
   have kW:Bw w W:=aY ah H (Nat.le_refl _)
   obtain⟨bn,cr,bo⟩:=d0 z.1 z.2.1 z.2.2
   obtain⟨L,hL⟩:=bM ((V.map (·.1)).foldl (x.stepG op B) l)
   have c8:L.length=53:=by
    rw[hL]
    have:∀(ts l:List Nat),(ts.foldl (x.stepG op B) l).length=l.length:=by
     intro ts
     induction ts with
     |nil=>intro l;rfl
     |cons t ts ih=>intro l;rw[List.foldl_cons,ih,rD]
    rw[this];exact cc
   rw[<-hL]at J
   have q0:Ce W E 0 (aF o):=bc kW cW
   have qp:Ce W p 0 (aB z.1):=hp.cell
   have ci:=aG (mP (HH.keep kW) bn)
   have a7:Hid (∀W',aC (aK w.heap.size) W W'->Ca 194 #[aF o,aB z.1] W' (Rt W' (aH (x.nextOf z.1)))):=fun W' kk=>yH (HH.keep (aY kW kk (Nat.le_refl _))) d2 bn
   obtain⟨d7,a8,cd,HP,HL⟩:=ma J H kW hp hL
   have df:p< W.heap.size:=hp.lt
   have ad:=kW.size
   clear J H kW hp hL
   gi_wp2
   refine⟨trivial,?_⟩
   refine(CallsIn.inRound lr (callsIn_wide.2 ci)).mono ?_
   rintro e T ⟨rfl,a5⟩
   have aa:Ce T E 0 (aF o):=bc a5 q0
   have a9:Ce T p 0 (aB z.1):=bc a5 qp
   obtain⟨cn,y⟩:=aN a5 (d7.below a5)
   have ai:Hid (aC (aK w.heap.size) W T):=aC.of_below a5
   clear a5 ci
   dsimp only
   repeat((fail_if_success (refine ze ?_));(first|go_values|gi_guarded|gi_step|gi_upon))
   refine(AI (R:=fun a' W'=>∃be bd bb b9 b8 b7 b6 b5 b4 b1 b0 az ay,a'={tmps:=#[.agg (aE l),Pt E 0,Pt b2 0,Pt b3 0,Pt w.heap.size 0,Pt (w.heap.size+1) 0,Pt (w.heap.size+1+1) 0,Pt p 0,aB (x.st z.1).p.nn,.bool (x.isCall z.1),undef,.func (.func (AE C)) #[] #[Pt E 0,Pt w.heap.size 0],aH S,.func (.func 212) #[] #[Pt D.heap.size 0],aB z.1,.tuple #[aB (x.st z.1).p.nn,.bool (x.isCall z.1)],Pt E 0,aF o,aB z.1,.tuple #[aB (x.st z.1).p.nn,.bool (x.isCall z.1)],aB (x.st z.1).p.nn,.bool (x.isCall z.1),.bool (x.isCall z.1),be,bd,bb,b9,b8,b7,b6,b5,b4,b1,b0,az,ay,undef,undef,undef,undef,undef,undef,undef,undef,undef,undef,undef,undef,undef],defers:=[]}/\aM W' w.heap.size (aE (x.cllG op L z.1))/\aC (aK w.heap.size) W W') ?_ ?_)
   next=>
    clear a7
    cases hc:x.isCall z.1
    ·have HE:Hid (x.cllG op L z.1=L):=by show _=_;unfold Rp.cllG;rw[hc];rfl
     gi_wp2
     exact⟨_,_,_,_,_,_,_,_,_,_,_,_,_,rfl,by rw[HE.out];exact y,ai⟩
    have bx:=bo hc
    have HE:Hid (x.cllG op L z.1=qP op L (x.begins.getD (x.st z.1).p.nn 0) (L.getD z.1 0)):=by show _=_;unfold Rp.cllG;rw[hc];rfl
    have ab:Bw w T:=cd.trans (cn.mono ad)
    obtain⟨gb,cb,lR,lg,q2,qg⟩:=d9 T _ ab bx
    have bz:=cm _ bx
    have dp:(((x.st z.1).p.nn:Nat):Int)< (x.begins.length:Int):=by omega
    have cs:((z.1:Nat):Int)< 53:=by omega
    have bj:aC (aK w.heap.size) D T:=a8.trans' ai (fun i e=>.inl e)
    have q6:Ce T (w.heap.size+1+1) 0 (.func (.func (AE C)) #[] #[Pt E 0,Pt w.heap.size 0]):=(ch.kept bj (by show¬w.heap.size+1+1=w.heap.size;omega)).cell 0
    have qa:T.drew.cell? (Ad w.heap.size z.1)=some (aH (L.getD z.1 0:Nat)):=by show T.cell? _=_;rw[y.out.cell];exact bU (by omega)
    have aq:=aG (ck _ E _ (x.begins.getD (x.st z.1).p.nn 0) (L.getD z.1 0) _ (y.below (⟨rfl,rfl,rfl,Nat.le_refl _,fun _ _=>rfl⟩:Bw T T.drew)) c8 bz (bc ab.drew cM))
    rw[<-HE.out]at aq
    have l6:=aD q6
    have lp:=aD a9
    have l0:=aD aa
    have dj:=aD q2
    have di:=aD qg
    have ak:=ab.size
    generalize L.getD z.1 0=dh at *
    generalize x.begins.getD (x.st z.1).p.nn 0=bg at *
    generalize(x.st z.1).p.nn=f at *
    have a6:Hid (∀w',aC (aK w.heap.size) T w'->Ce w' (w.heap.size+1+1) 0 (.func (.func (AE C)) #[] #[Pt E 0,Pt w.heap.size 0])/\Ce w' E 0 (aF o)/\Ce w' p 0 (aB z.1)/\Ce w' o 2 (.slice (some (Ad gb 0)) x.begins.length cb)/\Ce w' gb f (aB (bg:Nat))):=fun w' q=>⟨kc q q6 (by omega),kc q aa (by omega),kc q a9 (by omega),kc q q2 (by omega),kc q qg (by omega)⟩
    have g:=a6 T.drew ((aC.refl _ T).drew)
    clear ab bj q2 qg q6 aa a9 bo hc
    gi_wp2
    refine fy (S:=fun w'=>Ce w' (w.heap.size+1+1) 0 (.func (.func (AE C)) #[] #[Pt E 0,Pt w.heap.size 0])/\Ce w' E 0 (aF o)/\Ce w' p 0 (aB z.1)/\Ce w' o 2 (.slice (some (Ad gb 0)) x.begins.length cb)/\Ce w' gb f (aB (bg:Nat))) (by kernel_rfl) (by kernel_rfl) (fun⟨_,_,e⟩=>e) g (fun F=>?_)
    refine dF 0 ?_
    refine dF 1 ?_
    refine dF 2 ?_
    refine dF 3 ?_
    refine dF 4 ?_
    refine dF 5 ?_
    refine dF 6 ?_
    refine dF 7 ?_
    refine dF 8 ?_
    refine dF 9 ?_
    refine dF 10 ?_
    try simp only[Act.put,fO,fN,fM]
    refine wpAnyH_ready (rs:=[11]) (by kernel_rfl) (by simp) ?_
    refine AllReadyH.cons rfl (fun K' O=>?_) AllReadyH.nil
    go_simp
    refine O _ _ g (fun A=>?_)
    clear O K'
    try simp only[Act.put,fO,fN,fM]
    refine wpAnyH_ready (rs:=[12]) (by kernel_rfl) (by simp) ?_
    refine AllReadyH.cons rfl (fun K' O=>?_) AllReadyH.nil
    go_simp
    refine aq.mono ?_
    rintro q w6 ⟨rfl,cx,a4⟩
    have bt:aC (aK w.heap.size) T w6:=((aC.refl _ T).drew).trans' a4 (fun i e=>.inl e)
    have g2:=a6 w6 bt
    try go_wp2_with fail
    refine O _ _ g2 (fun A=>?_)
    clear O K'
    try simp only[Act.put,fO,fN,fM]
    refine wpAnyH_done (by kernel_rfl) ?_ _
    exact⟨_,_,_,_,_,_,_,_,_,_,_,_,_,rfl,cx,ai.trans' bt (fun i e=>.inl e)⟩
   rintro a' ax ⟨be,bd,bb,b9,b8,b7,b6,b5,b4,b1,b0,az,ay,rfl,am,Q⟩
   have c9:(x.cllG op L z.1).length=53:=(vE x op L z.1).trans c8
   have bh:Ce ax E 0 (aF o):=kc Q q0 (by omega)
   have bf:Ce ax p 0 (aB z.1):=kc Q qp (by omega)
   have ap:=aG (a7 ax Q)
   have ar:=aG am
   have cg:=aG Q
   clear am Q aa a9 q0 qp a7
   gi_wp2
   refine⟨trivial,?_⟩
   refine(CallsIn.inRound lr (callsIn_wide.2 ap)).mono ?_
   rintro e W3 ⟨rfl,ac⟩
   have dd:Hid (aC (aK w.heap.size) W W3):=cg.below ac
   have cl:=aG (ar.below ac)
   have dl:=ac.size
   clear ac cn ap bh bf ar y ai
   gi_wp2_with (refine⟨trivial,?_⟩;gi_at_call 144;refine(CallsIn.inRound lr (gJ _ _ _)).mono ?_;rintro e w' ⟨rfl,hq⟩;subst w')
   obtain⟨W4,ae⟩:=bM (W3.alloc (.cells #[aH (x.nextOf z.1)] 284))
   have bl:Bw W3 W4:=by rw[ae];exact ba W3 _
   have k4:aC (aK w.heap.size) W W4:=dd.below bl
   have bN:Boxed W4 W3.heap.size 284 (aH (x.nextOf z.1)):=by rw[ae];exact Boxed.new _ _ _
   have ct:W3.heap.size< W4.heap.size:=bN.lt
   have de:=k4.size
   have bi:Bw w W4:=aY cd k4 (Nat.le_refl _)
   have bw:x.nextOf z.1< ec:=zF x z.1
   rw[<-ae]
   have d5:Hid (W4.heap[lr]?=some (.loop rr)):=(k4.block lr (gl bq) (by show¬lr=w.heap.size;omega)).trans bq
   clear ae
   refine' By (l₀:=lr) rfl d5 (by decide) (gf:=212) (lb:=#[Pt W3.heap.size 0]) rfl trivial (enters_of Tryz.func212 (by kernel_rfl) rfl)
    (SeqStopsK.inRound lr (fI 2 (by decide) W3.heap.size w.heap.size (x.nextOf z.1) bw W4 ct (by omega) hg bN.cell (HT.below bi))) belowK_t (belowK_b (by omega)) (Below.refl _ _) (fun _=>rfl)
    (fun P W'=>aM W' w.heap.size (aE ((P.map (·.1)).foldl (fun l t=>qP op l t (B l z.1)) (x.cllG op L z.1)))/\aC (aK w.heap.size) W4 W')
    (fun _ _ _=>False)
    (OwnFrom.and (eG (by omega)) (eo (Nat.le_refl _)))
    (fun _ _ _ _ _ hs _ _=>hs)
    ⟨cl.below bl,aC.refl _ _⟩ (fun _=>Below.refl _ _) _ ?assign2 ?body2 ?done2 ?stop2
   case assign2=>
    intro l2 z2 W' K O
    gi_wp2
    exact O
   case body2=>
    rintro l2 P z2 W'- -⟨N,G⟩ dg
    have bp:=d3 z.1 z2.1 z.2.1 z.2.2 z2.2.1 z2.2.2
    have kk:aC (aK w.heap.size) W W':=k4.trans' G (fun i e=>.inl e)
    have M:Bw w W':=aY bi G (Nat.le_refl _)
    have a6:Hid (∀w',aC (aK w.heap.size) W' w'->Ce w' (w.heap.size+1+1) 0 (.func (.func (AE C)) #[] #[Pt E 0,Pt w.heap.size 0])/\Ce w' b3 0 (.func (.func bk) #[] v)/\w'.cell? (Ad p 0)=some (aB z.1)):=fun w' q=>by
     have cq:aC (aK w.heap.size) D w':=(a8.trans' kk (fun i e=>.inl e)).trans' q (fun i e=>.inl e)
     have cp:aC (aK w.heap.size) W w':=kk.trans' q (fun i e=>.inl e)
     have kb:Bw w w':=aY M q (Nat.le_refl _)
     refine⟨(ch.kept cq (by show¬w.heap.size+1+1=w.heap.size;omega)).cell 0,bc kb c3,kc cp HP.cell (by omega)⟩
    obtain⟨L2,ag⟩:=bM ((P.map (·.1)).foldl (fun l t=>qP op l t (B l z.1)) (x.cllG op L z.1))
    have ao:L2.length=53:=by
     rw[ag]
     have:∀(ts l:List Nat),(ts.foldl (fun l t=>qP op l t (B l z.1)) l).length=l.length:=by
      intro ts
      induction ts with
      |nil=>intro l;rfl
      |cons t ts ih=>intro l;rw[List.foldl_cons,ih,oX]
     rw[this];exact c9
    rw[<-ag]at N
    obtain⟨g0,g1,g2⟩:=a6 W'.drew ((aC.refl _ W').drew)
    have aw:aM W'.drew w.heap.size (aE L2):=N.below ⟨rfl,rfl,rfl,Nat.le_refl _,fun _ _=>rfl⟩
    have d8:=aG (db W'.drew L2 z.1 M.drew aw ao z.2.1 z.2.2)
    have cj:Hid (∀w2,Bw W'.drew w2->Ca (AE C) #[aB z2.1,aH (B L2 z.1:Nat),Pt E 0,Pt w.heap.size 0] w2 fun r w'=>r=.returned (.tuple #[])/\aM w' w.heap.size (aE (qP op L2 z2.1 (B L2 z.1)))/\aC (aK w.heap.size) w2 w'):=fun w2 bm=>ck _ _ _ _ _ _ (aw.below bm) ao bp (bc (M.drew.trans (bm.mono M.size)) cM)
    have d4:Hid (((P++[z2]).map (·.1)).foldl (fun l t=>qP op l t (B l z.1)) (x.cllG op L z.1)=qP op L2 z2.1 (B L2 z.1)):=by
     show _=_
     rw[List.map_append,ag]
     exact eK _ _ _ _
    have ce:=aG G
    have ak:w.heap.size<=W'.heap.size:=M.size
    clear aw N G kk M ag
    gi_wp2
    refine fy (S:=fun w'=>Ce w' (w.heap.size+1+1) 0 (.func (.func (AE C)) #[] #[Pt E 0,Pt w.heap.size 0])/\Ce w' b3 0 (.func (.func bk) #[] v)/\Ce w' p 0 (aB z.1)) (by kernel_rfl) (by kernel_rfl) (fun⟨_,_,e⟩=>e) (⟨g0,g1,g2⟩) (fun F=>?_)
    refine dF 0 ?_
    refine dF 1 ?_
    refine dF 2 ?_
    refine dF 3 ?_
    try simp only[Act.put,fO,fN,fM]
    refine wpAnyH_ready (rs:=[4]) (by kernel_rfl) (by simp) ?_
    refine AllReadyH.cons rfl (fun K' O=>?_) AllReadyH.nil
    go_simp
    refine d8.mono ?_
    rintro q w5 ⟨rfl,u⟩
    have dc:=aG u
    have au:aC (aK w.heap.size) W' w5:=aC.of_below ⟨u.os,u.tape,u.output,u.size,u.block⟩
    obtain⟨e0,e1,e2⟩:=a6 w5 au
    have cf:=aG au
    clear u au
    try go_wp2_with fail
    refine O _ _ ⟨e0,e1,e2⟩ (fun A=>?_)
    clear O K' F
    have F:=A
    clear A
    try simp only[Act.put,fO,fN,fM]
    refine wpAnyH_ready (rs:=[5]) (by kernel_rfl) (by simp) ?_
    refine AllReadyH.cons rfl (fun K' O=>?_) AllReadyH.nil
    go_simp
    refine(cj w5 dc).mono ?_
    rintro q w6 ⟨rfl,hq⟩
    have a4:aC (aK w.heap.size) W' w6:=cf.trans' hq.2 (fun i e=>.inl e)
    obtain⟨f0,a,f2⟩:=a6 w6 a4
    try go_wp2_with fail
    refine O _ _ ⟨f0,a,f2⟩ (fun A=>?_)
    clear O K' F
    have F:=A
    clear A
    try simp only[Act.put,fO,fN,fM]
    refine wpAnyH_done (by kernel_rfl) ?_ _
    clear F
    exact⟨dH a4 (by omega),dW a4 (Nat.le_refl _) ak,by rw[d4.out];exact hq.1,ce.trans' a4 (fun i e=>.inl e)⟩
   case done2=>
    rintro ys W' rfl ⟨N,G⟩
    have kk:aC (aK w.heap.size) W W':=k4.trans' G (fun i e=>.inl e)
    have HF:Hid (KeepsFrom W2.heap.size W W'/\Below w.heap.size W W'/\aM W' w.heap.size (aE (((V++[z]).map (·.1)).foldl (x.stepG op B) l))/\aC (aK w.heap.size) D W'):=by
     refine⟨dH kk (by omega),dW kk (Nat.le_refl _) ad,?_,a8.trans' kk (fun i e=>.inl e)⟩
     have e:((V++[z]).map (·.1)).foldl (x.stepG op B) l=x.stepG op B L z.1:=by
      rw[List.map_append,HL.out]
      exact eK _ _ _ _
     rw[e]
     unfold Rp.stepG
     rw[<-dO]
     exact N
    clear N G kk
    gi_wp2
    exact HF
   case stop2=>
    rintro c P W' _ h
    exact h.elim
  case done=>
   rintro Dn ys W ds rfl ⟨J,H⟩ O
   have c5:aM W w.heap.size (aE (x.passG op B S l)):=by
    have:=J
    rw[dO]at this
    exact this
   have av:Hid ((x.passG op B S l).length=53):=by
    show _=_
    unfold Rp.passG
    have:∀(ts l:List Nat),(ts.foldl (x.stepG op B) l).length=l.length:=by
     intro ts
     induction ts with
     |nil=>intro l;rfl
     |cons t ts ih=>intro l;rw[List.foldl_cons,ih,rD]
    rw[this];exact cc
   have br:W.heap[w.heap.size+1]?=some (.cells oI (nI a0) (0,0)):=(H.block _ (by omega) (by show¬w.heap.size+1=w.heap.size;omega)).trans d1
   have a8:=aG H
   clear J H
   gi_wp2_with (first|(refine kC rfl a0 _ rfl rfl c5 av ?_)|(refine kz rfl a0 _ _ rfl rfl rfl av br wD ?_))
   show∀w':World,_
   intro w4 cv Z
   have ca:w4.heap[Dn]?=some (.deferred (some [])):=(Z.block _ (gl O) (by show¬Dn=w.heap.size+1;omega)).trans O
   have al:Bw w w4:=by
    have:=aY ah a8 (Nat.le_refl _)
    exact this.trans ⟨Z.os,Z.tape,Z.output,Z.size,fun i hi=>Z.block i (by have:=this.size;omega) (by show¬i=w.heap.size+1;omega)⟩
   have d6:=aG al
   have cw:(Tryz.prog.info? (nI a0)).map (·.size)=some (aE (x.passG op B S l)).size:=by rw[aS,av.out];exact a0.hi
   clear Z c5 br al
   gi_wp2
   refine⟨by simp,.inl ⟨_,_,rfl,run_takeDeferred ca,?_⟩⟩
   refine⟨_,results_cell_row rfl _ _ (w.heap.size+1) (nI a0) (aE (x.passG op B S l)) (0,0) _ rfl ((Array.getElem?_setIfInBounds_ne (by omega)).trans cv) (by first|exact Tryz.underlying229|exact Tryz.underlying233) rfl cw,rfl,?_⟩
   exact d6.trans (belowK_b (w:=w) (Nat.le_refl _) w4 Dn _ _ (by omega) ca rfl rfl)
  case stop=>
   rintro Dn c V W _ _ h _
   exact h.elim
end
section
attribute [local go_sem] Oper.semAt_some
theorem CP{op:Nat->Nat->Nat}(B:∀a b,op a b< ec)(h:Wd 53 l)(a b:Nat):Wd 53 (qP op l a b):=⟨by rw[oX];exact h.len,fun v A=>by
 unfold qP at A
 rcases List.mem_or_eq_of_mem_set A with A|rfl
 ·exact h.lt v A
 ·exact B _ _⟩
theorem Fy{op:Nat->Nat->Nat}(A:∀a b,op a b< ec)(x:Rp)(h:Wd 53 l)(s:Nat):Wd 53 (x.cllG op l s):=by
 unfold Rp.cllG
 split
 ·exact CP A h _ _
 ·exact h
theorem pM{op:Nat->Nat->Nat}(A:∀a b,op a b< ec)(x:Rp)(B:List Nat->Nat->Nat)(S:Nat)(h:Wd 53 l):Wd 53 (x.passG op B S l):=by
 have D:∀(s:Nat) (ts l:List Nat),Wd 53 l->Wd 53 (ts.foldl (fun l t=>qP op l t (B l s)) l):=by
  intro s ts
  induction ts with
  |nil=>intro l h;exact h
  |cons t ts ih=>intro l h;exact ih _ (CP A h _ _)
 have C:∀(ts l:List Nat),Wd 53 l->Wd 53 (ts.foldl (x.stepG op B) l):=by
  intro ts
  induction ts with
  |nil=>intro l h;exact h
  |cons t ts ih=>intro l h;exact ih _ (D t _ _ (Fy A x h t))
 exact C _ _ h
theorem CD{c d e g j m n o fS:Nat}{op:Nat->Nat->Nat}(ho:∀a b,op a b< ec)(hq:c=152/\d=224/\e=225/\j=229/\m=399/\n=322/\o=332/\fS=223\/c=160/\d=230/\e=231/\j=233/\m=404/\n=335/\o=346/\fS=229)(C:ke Tryz.prog j 53)(Z:∀args w,(callFunc e args).run Tryz.prog w=.ok (.enter e args) w)(X:∀args w,(callFunc d args).run Tryz.prog w=.ok (.enter d args) w)(Y:∀(w:World) (bW N tq H:Nat) (l:List Nat),aM w N (aE l)->l.length=53->tq< 53->w.cell? (Ad bW 2)=some (.func (.func g) #[] #[])->Ca e #[aB tq,aH H,Pt bW 0,Pt N 0] w fun r w'=>r=.returned (.tuple #[])/\aM w' N (aE (qP op l tq H))/\aC (aK N) w w'){w:World}{bR S K nn:Nat}{x:Rp}{B:List Nat->Nat->Nat}{M:FuncId}{A:Array Value}{l R:List Nat}(h:cA w bR x)(ok:ft x)(hS:S< ec)(z:∀s,s< 64->S.testBit s=true->s< x.stmts.length/\s< 53/\(x.isCall s=true->(x.st s).p.nn< x.begins.length))(u:∀f,f< x.begins.length->x.begins.getD f 0< 53)(V:Wd 53 l)
  (T:∀s t,s< 64->S.testBit s=true->t< 64->(x.nextOf s).testBit t=true->t< 53)
  (hB:∀(W:World) (N:Nat) (l:List Nat) (s:Nat),Bw w W->aM W N (aE l)->l.length=53->s< 64->S.testBit s=true->Ca M (#[Pt N 0,aB s]++A) W (Rt W (aH (B l s:Nat))))
  (a9:∀args w,(callFunc M args).run Tryz.prog w=.ok (.enter M args) w) (hT:Tz w) (hg:0< w.heap.size) (hR:dC (x.passG op B S) K l=some R):
  Calls Tryz.prog c #[.agg #[aF bR,aH nn,.func (.func g) #[] #[]],.agg (aE l),aH S,.func (.func M) #[] A] w (Rt w (.agg (aE R))):=by
 obtain⟨D,J⟩:=bM (((((w.alloc (.cells #[aF bR,aH nn,.func (.func g) #[] #[]] n)).alloc (.cells (aE l) j)).alloc (.cells #[aH S] 284)).alloc (.cells #[.func (.func M) #[] A] o)).alloc (.cells oI j))
 have kD:Bw w D:=by rw[J];exact((((ba w _).alloc (by simp) _).alloc (by simp;omega) _).alloc (by simp;omega) _).alloc (by simp;omega) _
 have b0:aM D w.heap.size #[aF bR,aH nn,.func (.func g) #[] #[]]:=by rw[J];exact((((aM.new w _ _).alloc _).alloc _).alloc _).alloc _
 have b1:aM D (w.heap.size+1) (aE l):=by rw[J];exact(((aM.new' _ _ _ _ (by simp)).alloc _).alloc _).alloc _
 have b2:aM D (w.heap.size+1+1) #[aH S]:=by rw[J];exact((aM.new' _ _ _ _ (by simp)).alloc _).alloc _
 have b3:aM D (w.heap.size+1+1+1) #[.func (.func M) #[] A]:=by rw[J];exact(aM.new' _ _ _ _ (by simp)).alloc _
 have b4:D.heap[w.heap.size+1+1+1+1]?=some (.cells oI j (0,0)):=by
  rw[J]
  have:=heap_alloc_new ((((w.alloc (.cells #[aF bR,aH nn,.func (.func g) #[] #[]] n)).alloc (.cells (aE l) j)).alloc (.cells #[aH S] 284)).alloc (.cells #[.func (.func M) #[] A] o)) (.cells oI j)
  rw[World.size_alloc,World.size_alloc,World.size_alloc,World.size_alloc]at this
  exact this
 have ac:Hid (l.length=53):=V.len
 have ab:Hid (Ca fS #[.agg (aE l),.func (.func d) #[] #[Pt w.heap.size 0,Pt (w.heap.size+1+1) 0,Pt (w.heap.size+1+1+1) 0]] D (Rt D (.agg (aE R)))):=by
  have a7:d=_/\e=_/\j=_/\m=_\/d=_/\e=_/\j=_/\m=_:=hq.imp (fun h=>⟨h.2.1,h.2.2.1,h.2.2.2.1,h.2.2.2.2.1⟩) (fun h=>⟨h.2.1,h.2.2.1,h.2.2.2.1,h.2.2.2.2.1⟩)
  have hS:fS=_\/fS=_:=hq.imp (fun h=>h.2.2.2.2.2.2.2) (fun h=>h.2.2.2.2.2.2.2)
  rcases hS with rfl|rfl
  all_goals first|refine Bl l R K (x.passG op B S) (fun _=>True) d #[] _ D V trivial (fun y F _=>⟨pM ho x B S F,trivial⟩) hR (fun y W F _ O=>?_) X|refine Bk l R K (x.passG op B S) (fun _=>True) d #[] _ D V trivial (fun y F _=>⟨pM ho x B S F,trivial⟩) hR (fun y W F _ O=>?_) X
  all_goals
   have P:=kD.trans (O.mono kD.size)
   exact Ff a7 C Z Y (h.keep P) ok hS z u F.len ((b0.below O).cell 0) ((b0.below O).cell 2) ((b2.below O).cell 0) ((b3.below O).cell 0) T (fun W' l' s k' aa a8 a6 a4=>hB W' W.heap.size l' s (P.trans (k'.mono P.size)) aa a8 a6 a4) a9 (hT.below P) (Nat.lt_of_lt_of_le hg P.size)
 have a0:Hid (R.length=53):=by
  have:∀(k:Nat) (y:List Nat),Wd 53 y->dC (x.passG op B S) k y=some R->R.length=53:=by
   intro k
   induction k with
   |zero=>
    intro y F G
    unfold dC at G
    split at G
    ·cases G;exact F.len
    ·cases G
   |succ k ih=>
    intro y F G
    unfold dC at G
    split at G
    ·cases G;exact F.len
    ·exact ih _ (pM ho x B S F) G
  exact this K l V hR
 obtain⟨HD,a1,a2⟩:=bY J kD b4
 have v:aM D (w.heap.size+1) (aE l):=b1
 clear Y h ok z V T hB hT hR J kD b0 b1 b2 b3 b4
 rcases hq with⟨rfl,rfl,rfl,rfl,rfl,rfl,rfl,rfl⟩|⟨rfl,rfl,rfl,rfl,rfl,rfl,rfl,rfl⟩
 all_goals
  go_in
  go_wp2_with (first|(rw[<-HD.out];refine gp rfl C _ rfl rfl v ac ?_))
  refine ab.mono ?_
  rintro q w2 ⟨rfl,L⟩
  have Q:=(L.block _ (gl a2)).trans a2
  have ae:=aG L
  clear L v
  go_wp2_with (first|(refine gQ rfl C _ _ rfl rfl rfl a0 Q wD ?_))
  show∀w':World,_
  intro w3 a3 E
  have ad:Hid (Bw w w3):=by
   have K:=a1.trans (ae.mono a1.size)
   exact K.trans ⟨E.os,E.tape,E.output,E.size,fun i hi=>E.block i (by have:=K.size;omega) (by show¬i=w.heap.size+1+1+1+1;omega)⟩
  have a5:(Tryz.prog.info? (nI C)).map (·.size)=some (aE R).size:=by rw[aS,a0.out];exact C.hi
  clear E Q
  go_wp2_with fail
  refine bodyPost_ret (results_cell_row rfl _ _ (w.heap.size+1+1+1+1) (nI C) (aE R) (0,0) _ rfl a3 (by first|exact Tryz.underlying229|exact Tryz.underlying233) rfl a5) rfl ⟨rfl,ad⟩
theorem rj:Et 224:=enters_of Tryz.func224 (by kernel_rfl) rfl
theorem ri:Et 230:=enters_of Tryz.func230 (by kernel_rfl) rfl
abbrev Fe:=@CD _ _ _ _ _ _ _ _ _ dT (fun _ _=>sq _ _) (.inl ⟨rfl,rfl,rfl,rfl,rfl,rfl,rfl,rfl⟩) lO rm rj (fun _ _ _ _ _ _=>IJ)
abbrev Fd:=@CD _ _ _ _ _ _ _ _ _ fV (fun _ _=>kE _ _) (.inr ⟨rfl,rfl,rfl,rfl,rfl,rfl,rfl,rfl⟩) nZ rk ri (fun _ _ _ _ _ _=>II)
end
section
attribute [local go_sem] Oper.semAt_some
theorem vR:(Tryz.prog.info? 227).map (fun i=>(i.zero,i.size,i.bytes))=some (some (aH 0),1,8):=by kernel_rfl
theorem zB{B:Nat}{D:List Value}(h:w.ownsRow B e 1 (.slice (some (Ad g 0)) n n) n D):w.heap[g]?=some (.cells D.toArray e (0,0)):=by
 rcases h.2 with⟨A,_⟩|⟨H,cap,G,A,_,F,_,_,E,C⟩
 ·cases A
 ·cases A
  rw[Nat.mul_one]at E C
  rw[List.take_of_length_le (by simp;omega)]at C
  rw[F,<-C]
namespace Rp
def unN(x:Rp)(ss:List Nat):Nat:=ss.foldl (fun a s=>if(x.st s).p.kind=10 then fV a (aW (x.st s).p.nn)else a) 0
def unl(x:Rp)(f:Nat):Nat:=x.unN (et (x.inOf (x.wholeD f)))
def unK(x:Rp)(k:Nat):List Nat:=(List.range x.begins.length).map (fun f=>if f< k then x.unl f else 0)
def unA(x:Rp):List Nat:=x.unK x.begins.length
end Rp
theorem AQ(x:Rp)(s:Nat)(A:List Nat):x.unN (A++[s])=if(x.st s).p.kind=10 then fV (x.unN A) (aW (x.st s).p.nn)else x.unN A:=by unfold Rp.unN;rw[List.foldl_append];rfl
theorem mG(x:Rp)(k:Nat):(x.unK k).length=x.begins.length:=by simp[Rp.unK]
theorem AR(x:Rp):x.unK 0=List.replicate x.begins.length 0:=by
 rw[List.eq_replicate_iff]
 exact⟨mG x 0,fun b A=>by simp[Rp.unK]at A;exact A.2.symm⟩
theorem AT(x:Rp)(k:Nat):(x.unK k).set k 0=x.unK k:=by
 refine List.ext_getElem (by simp) (fun i B A=>?_)
 rw[List.getElem_set]
 split
 ·simp[Rp.unK];omega
 ·rfl
theorem AS(x:Rp)(k:Nat):(x.unK k).set k (x.unl k)=x.unK (k+1):=by
 refine List.ext_getElem (by simp[mG]) (fun i B A=>?_)
 rw[List.getElem_set]
 simp only[Rp.unK,List.getElem_map,List.getElem_range]
 split
 ·subst_vars;rw[if_pos (by omega)]
 ·by_cases h:i< k
  ·rw[if_pos h,if_pos (by omega)]
  ·rw[if_neg h,if_neg (by omega)]
structure Md(w wr:World)(bR bL n k:Nat)(us:List Nat)(ds:List Deferred):Prop where
 kp:Below w.heap.size w wr
 b1:Boxed wr w.heap.size 221 (aF bR)
 row:wr.heap[w.heap.size+1]?=some (.cells (aE us) 227 (0,0))
 b3:Boxed wr bL 323 (.slice (some ⟨w.heap.size+1,0,none⟩) n n)
 bl:w.heap.size+1< bL
 mks:Mk wr (w.heap.size+1+1) ds
 le:k<=n
theorem xS(h:cA w d x)(ok:ft x)(sp:cP x)(wh:vJ x)(bf:∀s,s< x.stmts.length->(x.st s).p.nn< 64)(hT:Tz w)(hg:0< w.heap.size):
  Ca 151 #[aF d] w fun r w'=>(r=.returned (.slice (some (Ad (w.heap.size+1) 0)) x.begins.length x.begins.length)/\∀f,f< x.begins.length->w'.cell? (Ad (w.heap.size+1) f)=some (aH (x.unA.getD f 0:Nat)))/\Bw w w':=by
 obtain⟨i0,hi,bt,be,br⟩:=info_parts vR
 obtain⟨bv,sv,tv,rv,lv,h1,h2,-⟩:=h.ex
 obtain⟨pb,cb,rfl⟩:=aI h2
 have c2:Ce w d 2 (.slice pb x.begins.length cb):=h1.cell 2
 have co:=h1.lt
 have cn:=wh.len
 refine(callsIn_wide (n:=3)).1 ?_
 refine callsIn_of_wp_marks Tryz.func151 rfl trivial ?_ rfl
 simp only[Tryz.ntmps151,List.size_toArray,List.length_cons,List.length_nil,Nat.reduceAdd,Nat.reduceSub,Array.replicate_succ,Array.replicate_zero,List.push_toArray,List.append_toArray,List.nil_append,List.cons_append]
 refine wpIn_wide.2 ?_
 go_wp2_with (at_make;refine wpList_make_full _ rfl _ _ 323 rfl w.heap.size 227 i0 (aH 0) 1 Tryz.underlying323 hi bt be .i64 .i64 _ _ x.begins.length rfl rfl rfl rfl (by rw[br];omega) (by unfold maxLen;omega) (by simp) ?_;intro w1 R F)
 obtain⟨bL,a8⟩:=bM w1.heap.size
 obtain⟨W0,a9⟩:=bM (w1.alloc (.cells #[.slice (some (Ad (w.heap.size+1) 0)) x.begins.length x.begins.length] 323))
 have ce:Hid (Md w W0 d bL x.begins.length 0 (x.unK 0) []):=by
  have hr:=zB R
  rw[World.size_alloc]at hr
  have hz:=(gl hr)
  have k1:Bw w w1:=(ba w _).grown F (by simp) (fun k e=>by cases e)
  rw[a9,a8]
  rw[AR]
  refine⟨k1.alloc k1.size _,?_,?_,Boxed.new _ _ _,hz,trivial,Nat.zero_le _⟩
  ·have:=(F.block w.heap.size (by simp) (fun e=>by cases e)).trans (Boxed.new w 221 (aF d))
   exact(Below.heap_alloc _ _ _ (by omega)).trans this
  ·rw[Below.heap_alloc _ _ _ hz,hr]
   congr 2
   have hm:(List.range x.begins.length).map (fun i=>([aH 0]:List Value)[i%1]?.getD default)=List.replicate x.begins.length (aH 0):=by
    rw[List.eq_replicate_iff]
    refine⟨by simp,fun b hb=>?_⟩
    simp only[List.mem_map,Nat.mod_one]at hb
    obtain⟨_,_,rfl⟩:=hb
    rfl
   simp[aE,aX,madeCells,Value.cells]
   rw[hm]
   simp
 rw[<-a9,<-a8]
 obtain⟨HH,aa,bj,c7,bk,HT⟩:=vp h sp ok wh bf hT
 clear h h1 h2 ok sp wh bf hT R F a9 a8
 refine(wpIn_wide (n:=3)).1 (wpIn_loop (fun a wr=>∃(u4 u5 bd bb b9 b8 b7 b6 b5 b4 b2 b0 az ay ax aw av au ar aq ap ao an am al ak aj ai ah ag af ae ad:Value) (ds:List Deferred) (k:Nat),a={tmps:=#[aF d,Pt w.heap.size 0,.slice none 0 0,Pt bL 0,u4,u5,aF d,Pt d 0,Pt d 2,.slice pb x.begins.length cb,aB x.begins.length,.slice (some (Ad (w.heap.size+1) 0)) x.begins.length x.begins.length,.slice (some (Ad (w.heap.size+1) 0)) x.begins.length x.begins.length,aB x.begins.length,aB k,bd,bb,b9,b8,b7,b6,b5,b4,b2,b0,az,ay,ax,aw,av,au,ar,aq,ap,ao,an,am,al,ak,aj,ai,ah,ag,af,ae,ad,undef],defers:=ds}/\Hid (Md w wr d bL x.begins.length k (x.unK k) ds)) (fun a _=>x.begins.length-(intOf (a.tmps.getD 14 undef)).toNat) ?start ?round)
 case start=>exact⟨_,_,_,_,_,_,_,_,_,_,_,_,_,_,_,_,_,_,_,_,_,_,_,_,_,_,_,_,_,_,_,_,_,_,0,rfl,ce⟩
 case round=>
  rintro a wr ⟨u4,u5,bd,bb,b9,b8,b7,b6,b5,b4,b2,b0,az,ay,ax,aw,av,au,ar,aq,ap,ao,an,am,al,ak,aj,ai,ah,ag,af,ae,ad,ds,k,rfl,C⟩
  have bz:=C.le
  have c3:=C.bl
  refine wpIn_wide.2 ?_
  by_cases hk:k=x.begins.length
  ·have bx:¬((k:Int)< (x.begins.length:Int)):=by omega
   have q3:Ce wr bL 0 (.slice (some (Ad (w.heap.size+1) 0)) x.begins.length x.begins.length):=C.b3.cell
   have cd:=aG hk
   clear hk bz
   go_wp2_with fail
   refine iy ds _ C.mks (fun w' kb=>?_)
   refine⟨_,results_tmp rfl _ _ _,?_⟩
   have bw:=C.row
   have hk:=cd.out
   subst hk
   refine⟨⟨rfl,fun f hf=>?_⟩,C.kp.trans (kb.mono (by omega))⟩
   have hb:=aA ((kb.block _ (by omega)).trans bw)
   rw[hb.cell]
   exact bU (by rw[mG];exact hf)
  ·have c0:k< x.begins.length:=by omega
   have bx:((k:Int)< (x.begins.length:Int)):=by omega
   clear hk
   obtain⟨P,a1⟩:=bM (wr.alloc (.cells #[aB k] 3))
   have k1:Bw wr P:=by rw[a1];exact ba wr _
   have bF:Boxed P wr.heap.size 3 (aB k):=by rw[a1];exact Boxed.new _ _ _
   have J:Bw w P:=C.kp.trans (k1.mono C.kp.size)
   have q1:Ce P w.heap.size 0 (aF d):=(aL C.b1 k1).cell
   have qf:Ce P wr.heap.size 0 (aB k):=bF.cell
   have be:wr.heap.size< P.heap.size:=bF.lt
   have cj:w.heap.size< wr.heap.size:=C.b1.lt
   have c6:Hid (Ca 205 #[aF d,aB k] P.drew (Rt P.drew (aH (x.wholeD k)))):=Bz (HH.keep J.drew) bj aa (Nat.lt_of_lt_of_le hg J.size) (HT.below J.drew) (by omega) (fun s hs hc=>bk s hs) (c7.wh k c0)
   have bp:Hid (∀W,Bw P.drew W->Ca 159 #[aF d,aH (x.wholeD k)] W (Rt W (aH (x.inOf (x.wholeD k))))):=fun W l=>by
    have kb:=J.drew.trans (l.mono J.size)
    exact Jg (HH.keep kb) bj aa (Nat.lt_of_lt_of_le hg kb.size) (HT.below kb) (x.wholeD k)
   obtain⟨M,hM⟩:=bM (x.inOf (x.wholeD k))
   rw[<-hM]at bp
   have bg:M< ec:=by rw[hM];exact jh _ _
   have cc:Hid (∀t,t< 64->M.testBit t=true->t< x.stmts.length):=fun t ht hb=>by rw[hM]at hb;exact qe aa ht hb
   obtain⟨ca,bo,cf,c8,ch⟩:=ma hM k1 bF a1 J
   clear hM a1 k1 bF J
   go_wp2_with fail
   rw[<-c8.out]
   go_region_held3 (fun w'=>Ce w' w.heap.size 0 (aF d)/\Ce w' wr.heap.size 0 (aB k)) (first|exact⟨i1,i2⟩|exact⟨g1,g2⟩|exact⟨e1,e2⟩|exact⟨q1,qf⟩|go_keep) (first|(go_at_call 205;refine c6.mono ?_;rintro q w2 ⟨rfl,a0⟩;have ac:=aG a0;have e1:Ce w2 w.heap.size 0 (aF d):=bc a0 q1;have e2:Ce w2 wr.heap.size 0 (aB k):=bc a0 qf;clear a0)|(go_at_call 159;refine(bp w2 ac).mono ?_;rintro q N ⟨rfl,O⟩;have G:Bw P.drew N:=ac.trans (O.mono ac.size);have Z:=aG G;have g1:Ce N w.heap.size 0 (aF d):=bc G q1;have g2:Ce N wr.heap.size 0 (aB k):=bc G qf;have ci:P.heap.size<=N.heap.size:=G.size;have i1:Ce (N.alloc (.cells #[aH M] 284)) w.heap.size 0 (aF d):=(World.cell?_alloc_lt _ _ _ (by show w.heap.size< N.heap.size;omega)).trans g1;have i2:Ce (N.alloc (.cells #[aH M] 284)) wr.heap.size 0 (aB k):=(World.cell?_alloc_lt _ _ _ (by show wr.heap.size< N.heap.size;omega)).trans g2;clear O G)|(go_at_call 144;refine(callsIn_wide.1 (gJ 2 _ _)).mono ?_;rintro e w' ⟨rfl,hq⟩;subst w'))
   all_goals
    obtain⟨W4,T⟩:=bM (N.alloc (.cells #[aH M] 284))
    have O:Bw P N:=⟨Z.os,Z.tape,Z.output,Z.size,Z.block⟩
    have k4:Bw wr W4:=by
     have:=bo.trans (O.mono bo.size)
     rw[T];exact this.alloc this.size _
    have bN:Boxed W4 N.heap.size 284 (aH M):=by rw[T];exact Boxed.new _ _ _
    have c5:Boxed W4 wr.heap.size 3 (aB k):=by rw[T];exact(aL cf O).alloc _
    have bq:N.heap.size< W4.heap.size:=bN.lt
    have a5:Bw w W4:=C.kp.trans (k4.mono C.kp.size)
    have cg:=k4.size
    rw[<-T]
    clear T O i1 i2 g1 g2 e1 e2 q1 qf
    go_wp2_with fail
    refine(wpIn_wide (n:=3)).1 ?_
    refine' wpIn_rangeFunc_ownG rfl (by decide) (gf:=212) (lb:=#[Pt N.heap.size 0]) rfl trivial (enters_of Tryz.func212 (by kernel_rfl) rfl)
     (fI 2 (by decide) N.heap.size w.heap.size M bg _ bq (by omega) hg bN.cell (HT.below a5)) belowK_t (belowK_b (by omega)) (Below.refl _ _) (fun _=>rfl)
     (fun H W=>(W.heap[w.heap.size+1]?=some (.cells (aE ((x.unK k).set k (x.unN (H.map (·.1))))) 227 (0,0)))/\aC (aK (w.heap.size+1)) W4 W)
     (fun _ _ _=>False)
     (OwnFrom.and (fun _ X Y row hs c1 hr=>by
      exact(c1.block _ (gl hs) (fun e=>by have:=(hr _ e.symm).1;omega)).trans hs) (eo (Nat.le_refl _)))
     (fun _ _ _ _ _ hs _ _=>hs)
     ⟨by have h2:=C.row;have h3:=(k4.block _ (gl h2)).trans h2;rw[<-AT]at h3;exact h3,aC.refl _ _⟩ _ ?assign ?body ?done ?stop
    case assign=>
     intro lr z W K D
     gi_wp2
     exact D
    case body=>
     rintro lr H z W ⟨A,E⟩ cm
     obtain⟨Q,L⟩:=bM ((x.unK k).set k (x.unN (H.map (·.1))))
     have ck:Q.length=x.begins.length:=by rw[L,List.length_set,mG]
     have m:Q.getD k 0=x.unN (H.map (·.1)):=by rw[L,List.getD_eq_getElem?_getD,List.getElem?_set_self (by rw[mG];omega)];rfl
     have V:Hid ((x.unK k).set k (x.unN ((H++[z]).map (·.1)))=Q.set k (if(x.st z.1).p.kind=10 then fV (Q.getD k 0) (aW (x.st z.1).p.nn)else Q.getD k 0)):=by
      show _=_
      rw[m,L,List.map_append]
      show(x.unK k).set k (x.unN ((H.map (·.1))++[z.1]))=_
      rw[AQ,List.set_set]
     have a3:Hid (Q.set k (Q.getD k 0)=Q):=by
      show _=_
      rw[m,L,List.set_set]
     rw[<-L]at A
     have a6:=cc z.1 z.2.1 z.2.2
     have a4:Bw w W:=aY a5 E (by omega)
     obtain⟨g,c,bs,sr,sb,z3,z4,z5,z6,z7,a7,-⟩:=(HH.keep a4).stm a6
     have ab:Hid (∀w',aC (aK (w.heap.size+1)) W w'->Ce w' bL 0 (.slice (some (Ad (w.heap.size+1) 0)) x.begins.length x.begins.length)/\Ce w' wr.heap.size 0 (aB k)/\w'.cell? (Ad w.heap.size 0)=some (aF d)):=fun w' q=>by
      have q4:aC (aK (w.heap.size+1)) W4 w':=E.trans' q (fun i e=>.inl e)
      have bh:=C.b3.lt
      refine⟨kc q4 (aL C.b3 k4).cell (by omega),kc q4 c5.cell (by omega),kc q4 (aL C.b1 k4).cell (by omega)⟩
     have q1:=(ab W (aC.refl _ _)).2.2
     have y2:Ce W bs 2 (aB (x.st z.1).p.kind):=a7.cell 2
     have bn:=aG E
     have bu:w.heap.size<=W.heap.size:=a4.size
     by_cases a2:(x.st z.1).p.kind=10
     ·rw[if_pos a2]at V
      have bi:(((x.st z.1).p.kind:Int)==10)=true:=by rw[beq_iff_eq];omega
      have bm:=aG (Dd (w:=W.drew) (HH.keep a4.drew) a6 (bk z.1 a6))
      obtain⟨g0,g1,g2⟩:=ab W.drew ((aC.refl _ W).drew)
      have y:=aA A
      have v0:W.drew.cell? (Ad (w.heap.size+1) k)=some (aH (Q.getD k 0:Nat)):=by
       show W.cell? _=_
       rw[y.cell];exact bU (by omega)
      have v1:W.drew.frozen? (Ad (w.heap.size+1) k)=false:=y.fz k
      have cl:w.heap.size+1< W.drew.heap.size:=y.lt
      have r1:=ff
      have HF:Hid (∀v:Nat,KeepsFrom W4.heap.size W (W.drew.setCell (Ad (w.heap.size+1) k) (aH v))/\Below w.heap.size W (W.drew.setCell (Ad (w.heap.size+1) k) (aH v))/\((W.drew.setCell (Ad (w.heap.size+1) k) (aH v)).heap[w.heap.size+1]?=some (.cells (aE (Q.set k v)) 227 (0,0)))/\aC (aK (w.heap.size+1)) W4 (W.drew.setCell (Ad (w.heap.size+1) k) (aH v))):=fun v=>by
       have l:aC (aK (w.heap.size+1)) W (W.drew.setCell (Ad (w.heap.size+1) k) (aH v)):=((aC.refl _ W).drew).set1 k _
       refine⟨dH l (by omega),dW l (by omega) bu,?_,bn.trans' l (fun i e=>.inl e)⟩
       have:=heap_set (W:=W.drew) (j:=k) (u:=aH v) A
       rw[eI]at this
       exact this
      generalize Q.getD k 0=uv at *
      clear E A y a7 a2 L m
      gi_wp2
      have c9:Hid (∀v:Nat,Ce (W.drew.setCell (Ad (w.heap.size+1) k) (aH v)) bL 0 (.slice (some (Ad (w.heap.size+1) 0)) x.begins.length x.begins.length)/\Ce (W.drew.setCell (Ad (w.heap.size+1) k) (aH v)) wr.heap.size 0 (aB k)/\Ce (W.drew.setCell (Ad (w.heap.size+1) k) (aH v)) w.heap.size 0 (aF d)):=fun v=>ab _ (((aC.refl _ W).drew).set1 k _)
      obtain⟨s0,s1,s2⟩:=c9 (fV uv (aW (x.st z.1).p.nn))
      refine fy (S:=fun w'=>Ce w' bL 0 (.slice (some (Ad (w.heap.size+1) 0)) x.begins.length x.begins.length)/\Ce w' wr.heap.size 0 (aB k)/\Ce w' w.heap.size 0 (aF d)) (by kernel_rfl) (by kernel_rfl) (fun⟨_,_,e⟩=>e) ⟨g0,g1,g2⟩ (fun c4=>?_)
      refine dF 0 ?_
      refine dF 1 ?_
      refine dF 2 ?_
      refine dF 4 ?_
      refine dF 5 ?_
      try simp only[Act.put,fO,fN,fM]
      refine wpAnyH_ready (rs:=[3,6]) (by kernel_rfl) (by simp) ?_
      refine AllReadyH.cons rfl (fun K' D=>?_) (AllReadyH.cons rfl (fun K' D=>?_) AllReadyH.nil)
      ·go_simp
       refine D _ _ ⟨g0,g1,g2⟩ (fun B=>?_)
       clear D K'
       try simp only[Act.put,fO,fN,fM]
       refine wpAnyH_ready (rs:=[6]) (by kernel_rfl) (by simp) ?_
       refine AllReadyH.cons rfl (fun K' D=>?_) AllReadyH.nil
       go_simp
       refine bm.mono ?_
       rintro q wq ⟨rfl,hq⟩
       subst wq
       try go_wp2_with fail
       refine D _ _ ⟨g0,g1,g2⟩ (fun B=>?_)
       clear D K'
       try simp only[Act.put,fO,fN,fM]
       refine dF 7 ?_
       refine dF 8 ?_
       try simp only[Act.put,fO,fN,fM]
       refine wpAnyH_ready (rs:=[9]) (by kernel_rfl) (by simp) ?_
       refine AllReadyH.cons rfl (fun K' D=>?_) AllReadyH.nil
       go_simp
       refine D _ _ ⟨s0,s1,s2⟩ (fun B=>?_)
       clear D K'
       try simp only[Act.put,fO,fN,fM]
       refine wpAnyH_done (by kernel_rfl) ?_ _
       exact⟨(HF _).1,(HF _).2.1,by rw[V.out];exact(HF _).2.2.1,(HF _).2.2.2⟩
      ·go_simp
       refine bm.mono ?_
       rintro q wq ⟨rfl,hq⟩
       subst wq
       try go_wp2_with fail
       refine D _ _ ⟨g0,g1,g2⟩ (fun B=>?_)
       clear D K'
       try simp only[Act.put,fO,fN,fM]
       refine wpAnyH_ready (rs:=[3]) (by kernel_rfl) (by simp) ?_
       refine AllReadyH.cons rfl (fun K' D=>?_) AllReadyH.nil
       go_simp
       refine D _ _ ⟨g0,g1,g2⟩ (fun B=>?_)
       clear D K'
       try simp only[Act.put,fO,fN,fM]
       refine dF 7 ?_
       refine dF 8 ?_
       try simp only[Act.put,fO,fN,fM]
       refine wpAnyH_ready (rs:=[9]) (by kernel_rfl) (by simp) ?_
       refine AllReadyH.cons rfl (fun K' D=>?_) AllReadyH.nil
       go_simp
       refine D _ _ ⟨s0,s1,s2⟩ (fun B=>?_)
       clear D K'
       try simp only[Act.put,fO,fN,fM]
       refine wpAnyH_done (by kernel_rfl) ?_ _
       exact⟨(HF _).1,(HF _).2.1,by rw[V.out];exact(HF _).2.2.1,(HF _).2.2.2⟩
     ·rw[if_neg a2,a3.out]at V
      have bi:(((x.st z.1).p.kind:Int)==10)=false:=by rw[beq_eq_false_iff_ne];omega
      have HR:=aG A
      clear E A a7 a2 L m a3
      gi_wp2
      exact⟨KeepsFrom.refl _ _,Below.refl _ _,by rw[V.out];exact HR,bn⟩
    case done=>
     rintro Dn ys W cp rfl ⟨A,E⟩ D
     have A:W.heap[w.heap.size+1]?=some (.cells (aE (x.unK (k+1))) 227 (0,0)):=by
      rw[dO]at A
      rw[<-AS]
      unfold Rp.unl
      rw[<-ca.out]
      exact A
     have HN:Hid (Md w W d bL x.begins.length (k+1) (x.unK (k+1)) ({target:=.collected Dn,args:=#[]}::ds)):=by
      have bh:=C.b3.lt
      have l:aC (aK (w.heap.size+1)) wr W:=(aC.of_below (S:=aK (w.heap.size+1)) k4).trans' E (fun i e=>.inl e)
      refine⟨aY a5 E (by omega),(l.block _ C.b1.lt (by show¬w.heap.size=w.heap.size+1;omega)).trans C.b1,A,(l.block _ bh (by show¬bL=w.heap.size+1;omega)).trans C.b3,c3,?_,by omega⟩
      refine C.mks.cons (fun i o hi ho=>(l.block i (gl hi) (fun e=>?_)).trans hi) (by omega) (by omega) D
      have e':i=w.heap.size+1:=e
      subst e'
      have h2:=C.row
      rw[h2]at hi
      cases hi
      cases ho
     clear A E
     try gi_wp2
     go_wp2_with fail
     exact⟨⟨_,_,_,_,_,_,_,_,_,_,_,_,_,_,_,_,_,_,_,_,_,_,_,_,_,_,_,_,_,_,_,_,_,_,k+1,by go_num,HN⟩,by simp[intOf];omega⟩
    case stop=>
     rintro Dn c H W _ _ h _
     exact h.elim
end
section
attribute [local go_sem] Oper.semAt_some
namespace Rp
def hf1(x:Rp)(all:Nat):List Nat:=(et x.spots).foldl (fun l s=>l.set s all) (List.replicate 53 0)
def hf2(x:Rp)(all:Nat):List Nat:=(x.hf1 all).set (x.begins.getD x.main 0) 0
def hfS(x:Rp)(l:List Nat)(s:Nat):List Nat:=if x.isStart s then l.set (x.begins.getD (x.st s).p.nn 0) 0 else l
def hf3(x:Rp)(all:Nat):List Nat:=(et x.spots).foldl x.hfS (x.hf2 all)
end Rp
theorem sG(h:Wd 53 l)(i:Nat){v:Nat}(B:v< ec):Wd 53 (l.set i v):=⟨by simpa using h.len,fun a A=>by
 rcases List.mem_or_eq_of_mem_set A with A|rfl
 ·exact h.lt a A
 ·exact B⟩
theorem ni{α:Type}(F:List Nat->α->List Nat)(A:∀l a,Wd 53 l->Wd 53 (F l a)):∀(ts:List α) (l:List Nat),Wd 53 l->Wd 53 (ts.foldl F l):=by
 intro ts
 induction ts with
 |nil=>intro l h;exact h
 |cons t ts ih=>intro l h;exact ih _ (A l t h)
theorem sj:Wd 53 (List.replicate 53 0):=⟨by simp,fun a A=>by rw[List.eq_of_mem_replicate A];decide⟩
theorem xB(x:Rp)(h:a< ec):Wd 53 (x.hf1 a):=ni _ (fun _ _ A=>sG A _ h) _ _ sj
theorem Ct(x:Rp)(h:a< ec):Wd 53 (x.hf2 a):=sG (xB x h) _ (by decide)
theorem Cr(x:Rp)(s:Nat)(h:Wd 53 l):Wd 53 (x.hfS l s):=by
 unfold Rp.hfS
 split
 ·exact sG h _ (by decide)
 ·exact h
theorem Cs(x:Rp)(h:a< ec):Wd 53 (x.hf3 a):=ni _ (fun _ s A=>Cr x s A) _ _ (Ct x h)
theorem xT(h:cA w a x)(sp:cP x)(ha:b< ec)(o:∀s,s< 64->x.spots.testBit s=true->s< 53)(ad:x.main< x.begins.length)(t:∀f,f< x.begins.length->x.begins.getD f 0< 53)(ab:∀s,s< x.stmts.length->x.isStart s=true->(x.st s).p.nn< x.begins.length)(hT:Tz w)(hg:0< w.heap.size):
  Ca 153 #[aF a,aH b] w (Rt w (.agg (aE (x.hf3 b)))):=by
 obtain⟨bv,sv,tv,rv,lv,h1,h2,-⟩:=h.ex
 obtain⟨O,cb,rfl⟩:=aO h2 (by omega)
 have c0:Ce w a 0 (aB x.main):=h1.cell 0
 have c2:Ce w a 2 (.slice (some (Ad O 0)) x.begins.length cb):=h1.cell 2
 have c5:Ce w a 5 (aH x.spots):=h1.cell 5
 have au:Hid (∀f,f< x.begins.length->w.cell? (Ad O f)=some (aB (x.begins.getD f 0:Nat))):=fun f hf=>by
  rw[h2.cellAt _ (by omega)]
  simp[dG,hf]
 have c4:=h1.lt
 have c1:O< w.heap.size:=(h2.lt O rfl).2
 obtain⟨D,k⟩:=bM ((((w.alloc (.cells #[aF a] 221)).alloc (.cells #[aH b] 227)).alloc (.cells oI 229)).alloc (.cells oI 229))
 have kD:Bw w D:=by rw[k];exact(((ba w _).alloc (by simp) _).alloc (by simp;omega) _).alloc (by simp;omega) _
 have bu:w.heap.size+1+1+1< D.heap.size:=by rw[k];simp
 have b1:aM D w.heap.size #[aF a]:=by rw[k];exact(((aM.new w _ _).alloc _).alloc _).alloc _
 have b2:aM D (w.heap.size+1) #[aH b]:=by rw[k];exact((aM.new' _ _ _ _ (by simp)).alloc _).alloc _
 have b3:D.heap[w.heap.size+1+1]?=some (.cells oI 229 (0,0)):=by
  rw[k]
  have:=heap_alloc_new ((w.alloc (.cells #[aF a] 221)).alloc (.cells #[aH b] 227)) (.cells oI 229)
  rw[World.size_alloc,World.size_alloc]at this
  exact(Below.heap_alloc _ _ _ (by simp)).trans this
 have b4:aM D (w.heap.size+1+1+1) (aE (List.replicate 53 0)):=by rw[k,<-Jo];exact aM.new' _ _ _ _ (by simp)
 obtain⟨R,av,bk,bj,bi,HH,HT,an,a1⟩:=xA kD b1 b2 b3 b4 h hT o t
 have be:=aG ab
 have r1:Ce D w.heap.size 0 (aF a):=b1.cell 0
 have r5:Ce D a 5 (aH x.spots):=bc kD c5
 rw[k]at r1 r5
 have HD:=aG k
 clear h h1 h2 hT o t ab kD b1 b2 b3 b4 k
 refine(callsIn_wide (n:=3)).1 ?_
 refine callsIn_of_wp_marks Tryz.func153 rfl trivial ?_ rfl
 simp only[Tryz.ntmps153,List.size_toArray,List.length_cons,List.length_nil,Nat.reduceAdd,Nat.reduceSub,Array.replicate_succ,Array.replicate_zero,List.push_toArray,List.append_toArray,List.nil_append,List.cons_append]
 gi_wp2_with (refine⟨trivial,?_⟩;gi_at_call 144;rw[<-HD.out];refine(gJ _ _ _).mono ?_;rintro e w' ⟨rfl,hq⟩;subst w')
 obtain⟨W2,j⟩:=bM (D.alloc (.cells #[aH x.spots] 284))
 have k2:Bw D W2:=by rw[j];exact ba D _
 have bA:Boxed W2 D.heap.size 284 (aH x.spots):=by rw[j];exact Boxed.new _ _ _
 have az:D.heap.size< W2.heap.size:=bA.lt
 have aw:Bw w W2:=R.trans (k2.mono R.size)
 rw[<-j]
 clear j r1 r5
 refine' wpIn_rangeFunc_ownG rfl (by decide) (gf:=212) (lb:=#[Pt D.heap.size 0]) rfl trivial (enters_of Tryz.func212 (by kernel_rfl) rfl)
  (fI 2 (by decide) D.heap.size w.heap.size x.spots sp.lt _ az (by omega) hg bA.cell (HT.below aw)) belowK_t (belowK_b (by omega)) (Below.refl _ _) (fun _=>rfl)
  (fun B W=>aM W (w.heap.size+1+1+1) (aE ((B.map (·.1)).foldl (fun l s=>l.set s b) (List.replicate 53 0)))/\aC (aK (w.heap.size+1+1+1)) D W)
  (fun _ _ _=>False)
  (OwnFrom.and (eG (by omega)) (eo (by omega)))
  (fun _ _ _ _ _ hs _ _=>hs)
  ⟨bi.below k2,aC.of_below k2⟩ _ ?assign ?body ?done ?stop
 case assign=>
  intro lr z W K hK
  gi_wp2
  exact hK
 case body=>
  rintro lr B z W ⟨C,A⟩ b5
  have bo:=an z.1 z.2.1 z.2.2
  have ay:((z.1:Nat):Int)< 53:=by omega
  have qa:Ce W (w.heap.size+1) 0 (aH b):=(bk.kept A (by show¬w.heap.size+1=w.heap.size+1+1+1;omega)).cell 0
  have ag:((B.map (·.1)).foldl (fun l s=>l.set s b) (List.replicate 53 0)).length=53:=(ni (fun l (s:Nat)=>l.set s b) (fun _ _ hl=>sG hl _ ha) _ _ sj).len
  have qz:W.cell? (Ad (w.heap.size+1+1+1) z.1)=some (aH (((B.map (·.1)).foldl (fun l s=>l.set s b) (List.replicate 53 0)).getD z.1 0:Nat)):=(C.cell _).trans (bU (by omega))
  have qf:W.frozen? (Ad (w.heap.size+1+1+1) z.1)=false:=C.fz _
  have b8:w.heap.size+1+1+1< W.heap.size:=C.lt
  have HF:Hid (KeepsFrom W2.heap.size W (W.setCell (Ad (w.heap.size+1+1+1) z.1) (aH b))/\Below w.heap.size W (W.setCell (Ad (w.heap.size+1+1+1) z.1) (aH b))/\aM (W.setCell (Ad (w.heap.size+1+1+1) z.1) (aH b)) (w.heap.size+1+1+1) (aE (((B++[z]).map (·.1)).foldl (fun l s=>l.set s b) (List.replicate 53 0)))/\aC (aK (w.heap.size+1+1+1)) D (W.setCell (Ad (w.heap.size+1+1+1) z.1) (aH b))):=by
   have kk:aC (aK (w.heap.size+1+1+1)) W (W.setCell (Ad (w.heap.size+1+1+1) z.1) (aH b)):=(aC.refl _ W).set1 _ _
   refine⟨dH kk (by omega),dW kk (by omega) (by omega),?_,A.trans' kk (fun i e=>.inl e)⟩
   have T:=C.set z.1 (aH (b:Nat)) (by rw[aS];omega)
   rw[eI]at T
   rw[List.map_append]
   show aM _ _ (aE (((B.map (·.1))++[z.1]).foldl _ _))
   rw[eK]
   exact T
  generalize((B.map (·.1)).foldl (fun l s=>l.set s b) (List.replicate 53 0)).getD z.1 0=lv at *
  clear C A ag
  gi_wp2
  exact HF
 case done=>
  rintro m ys W bb rfl ⟨C,A⟩ aj
  have G:aM W (w.heap.size+1+1+1) (aE (x.hf1 b)):=by
   have:=C
   rw[dO]at this
   exact this
  have E:Bw w W:=aY R A (by omega)
  have bq:=a1 x.main ad
  have b7:((x.begins.getD x.main 0:Nat):Int)< 53:=by omega
  have bx:((x.main:Nat):Int)< (x.begins.length:Int):=by omega
  have ae:=au x.main ad
  generalize b9:x.begins.getD x.main 0=V at *
  have q1:Ce W w.heap.size 0 (aF a):=(av.kept A (by show¬w.heap.size=w.heap.size+1+1+1;omega)).cell 0
  have q2:Ce W a 2 (.slice (some (Ad O 0)) x.begins.length cb):=bc E c2
  have q0:Ce W a 0 (aB x.main):=bc E c0
  have qb:Ce W O x.main (aB (V:Nat)):=bc E ae
  have qz:W.cell? (Ad (w.heap.size+1+1+1) V)=some (aH ((x.hf1 b).getD V 0:Nat)):=by rw[G.cell];exact bU (by rw[(xB x ha).len];omega)
  have qf:W.frozen? (Ad (w.heap.size+1+1+1) V)=false:=G.fz _
  have b8:w.heap.size+1+1+1< W.heap.size:=G.lt
  have c6:a< W.heap.size:=aD q2
  have c3:O< W.heap.size:=aD qb
  obtain⟨H,g⟩:=bM (W.setCell (Ad (w.heap.size+1+1+1) V) (aH 0)).drew
  have k5:aC (aK (w.heap.size+1+1+1)) W H:=by rw[g];exact((aC.refl _ W).set1 _ _).drew
  have af:aM H (w.heap.size+1+1+1) (aE (x.hf2 b)):=by
   have T:=G.set V (aH (0:Nat)) (by rw[aS,(xB x ha).len];omega)
   rw[eI]at T
   unfold Rp.hf2
   rw[g,b9]
   exact T.below ⟨rfl,rfl,rfl,Nat.le_refl _,fun _ _=>rfl⟩
  have a3:aC (aK (w.heap.size+1+1+1)) D H:=A.trans' k5 (fun i e=>.inl e)
  have ah:H.heap[m]?=some (.deferred (some [])):=(k5.block _ (gl aj) (by show¬m=w.heap.size+1+1+1;omega)).trans aj
  have a2:Bw w H:=aY R a3 (by omega)
  have ao:Hid (∀W',aC (aK (w.heap.size+1+1+1)) W W'->Ce W' w.heap.size 0 (aF a)/\Ce W' a 2 (.slice (some (Ad O 0)) x.begins.length cb)/\Ce W' a 0 (aB x.main)/\W'.cell? (Ad O x.main)=some (aB (V:Nat))):=fun W' q=>by
   refine⟨kc q q1 (by omega),kc q q2 (by omega),kc q q0 (by omega),kc q qb (by omega)⟩
  obtain⟨s1,s2,s3,s4⟩:=ao (W.setCell (Ad (w.heap.size+1+1+1) V) (aH 0)).drew (((aC.refl _ W).set1 _ _).drew)
  obtain⟨bd,ar,y,bh,a0⟩:=ma g a3 a2 af ah
  have t1:Ce H w.heap.size 0 (aF a):=(ao H k5).1
  have t5:Ce H a 5 (aH x.spots):=bc a2 c5
  generalize(x.hf1 b).getD V 0=hv at *
  clear C A G E g k5 af a3 ah a2 ae
  gi_wp2
  refine wpIn_wide.2 ?_
  go_region_held3 (fun w'=>Ce w' w.heap.size 0 (aF a)/\Ce w' a 2 (.slice (some (Ad O 0)) x.begins.length cb)/\Ce w' a 0 (aB x.main)/\Ce w' O x.main (aB (V:Nat))) (first|exact⟨s1,s2,s3,s4⟩|exact⟨q1,q2,q0,qb⟩|go_keep) (fail)
  all_goals
   rw[<-bd.out]
   clear s1 s2 s3 s4 q0 q1 q2 qb qz qf
   gi_wp2_with (refine⟨trivial,?_⟩;gi_at_call 144;refine(gJ _ _ _).mono ?_;rintro e w' ⟨rfl,hq⟩;subst w')
   obtain⟨v,d⟩:=bM (H.alloc (.cells #[aH x.spots] 284))
   have k6:Bw H v:=by rw[d];exact ba H _
   have al:Boxed v H.heap.size 284 (aH x.spots):=by rw[d];exact Boxed.new _ _ _
   have ax:H.heap.size< v.heap.size:=al.lt
   have a7:Bw w v:=y.trans (k6.mono y.size)
   have bl:D.heap.size<=H.heap.size:=ar.size
   have ak:m< H.heap.size:=(gl a0)
   have a8:aC (aK (w.heap.size+1+1+1)) D v:=ar.below k6
   rw[<-d]
   clear d t1 t5
   refine' wpIn_rangeFunc_ownG rfl (by decide) (gf:=212) (lb:=#[Pt H.heap.size 0]) rfl trivial (enters_of Tryz.func212 (by kernel_rfl) rfl)
    (fI 2 (by decide) H.heap.size w.heap.size x.spots sp.lt _ ax (by omega) hg al.cell (HT.below a7)) belowK_t (belowK_b (by omega)) (Below.refl _ _) (fun _=>rfl)
    (fun B W'=>aM W' (w.heap.size+1+1+1) (aE ((B.map (·.1)).foldl x.hfS (x.hf2 b)))/\aC (aK (w.heap.size+1+1+1)) v W')
    (fun _ _ _=>False)
    (OwnFrom.and (eG (by omega)) (eo (Nat.le_refl _)))
    (fun _ _ _ _ _ hs _ _=>hs)
    ⟨bh.below k6,aC.refl _ _⟩ _ ?assign2 ?body2 ?done2 ?stop2
   case assign2=>
    intro lr z W' K hK
    gi_wp2
    exact hK
   case body2=>
    rintro lr B z W' ⟨C,A⟩ b5
    have a9:=sp.mem z.1 z.2.1 z.2.2
    have E:Bw w W':=aY a7 A (by omega)
    have N:aC (aK (w.heap.size+1+1+1)) D W':=a8.trans' A (fun i e=>.inl e)
    have q1:Ce W' w.heap.size 0 (aF a):=(av.kept N (by show¬w.heap.size=w.heap.size+1+1+1;omega)).cell 0
    have am:=aG (pI (HH.keep E) a9)
    obtain⟨L,hL⟩:=bM ((B.map (·.1)).foldl x.hfS (x.hf2 b))
    have ag:L.length=53:=by rw[hL];exact(ni x.hfS (fun _ s hl=>Cr x s hl) _ _ (Ct x ha)).len
    rw[<-hL]at C
    have ap:Hid (((B++[z]).map (·.1)).foldl x.hfS (x.hf2 b)=x.hfS L z.1):=by
     show _=_
     rw[List.map_append,hL]
     exact eK _ _ _ _
    obtain⟨bg,Q,aq⟩:=bY C A E
    have bt:w.heap.size< W'.heap.size:=aD q1
    have Y:w.heap.size<=W'.heap.size:=E.size
    clear C A E N hL
    gi_wp2
    refine⟨trivial,?_⟩
    refine(CallsIn.inRound lr (callsIn_wide.2 am)).mono ?_
    rintro e P ⟨rfl,M⟩
    have br:Ce P w.heap.size 0 (aF a):=bc M q1
    obtain⟨a6,J⟩:=aN M (bg.below M)
    have X:Bw w P:=aq.trans (M.mono aq.size)
    have q2:Ce P a 2 (.slice (some (Ad O 0)) x.begins.length cb):=bc X c2
    cases a4:x.isStart z.1
    ·have HE:Hid (x.hfS L z.1=L):=by show _=_;unfold Rp.hfS;rw[a4];rfl
     clear M X
     gi_wp2
     exact⟨bO a6,a6.mono Y,by rw[ap.out,HE.out];exact J,Q.below a6⟩
    ·have ac:=be z.1 a9 a4
     have bp:=a1 _ ac
     have HE:Hid (x.hfS L z.1=L.set (x.begins.getD (x.st z.1).p.nn 0) 0):=by show _=_;unfold Rp.hfS;rw[a4];rfl
     have qb:Ce P O (x.st z.1).p.nn (aB (x.begins.getD (x.st z.1).p.nn 0:Nat)):=bc X (au _ ac)
     have bw:(((x.st z.1).p.nn:Nat):Int)< (x.begins.length:Int):=by omega
     generalize x.begins.getD (x.st z.1).p.nn 0=bn at *
     have b6:((bn:Nat):Int)< 53:=by omega
     have qz:P.cell? (Ad (w.heap.size+1+1+1) bn)=some (aH (L.getD bn 0:Nat)):=(J.cell _).trans (bU (by omega))
     have qf:P.frozen? (Ad (w.heap.size+1+1+1) bn)=false:=J.fz _
     have bz:w.heap.size+1+1+1< P.heap.size:=J.lt
     have HF:Hid (KeepsFrom v.heap.size W' (P.setCell (Ad (w.heap.size+1+1+1) bn) (aH 0))/\Below w.heap.size W' (P.setCell (Ad (w.heap.size+1+1+1) bn) (aH 0))/\aM (P.setCell (Ad (w.heap.size+1+1+1) bn) (aH 0)) (w.heap.size+1+1+1) (aE (((B++[z]).map (·.1)).foldl x.hfS (x.hf2 b)))/\aC (aK (w.heap.size+1+1+1)) v (P.setCell (Ad (w.heap.size+1+1+1) bn) (aH 0))):=by
      have kk:aC (aK (w.heap.size+1+1+1)) W' (P.setCell (Ad (w.heap.size+1+1+1) bn) (aH 0)):=(aC.of_below (S:=aK (w.heap.size+1+1+1)) M).set1 _ _
      refine⟨dH kk (by omega),dW kk (by omega) Y,?_,Q.trans' kk (fun i e=>.inl e)⟩
      have T:=J.set bn (aH (0:Nat)) (by rw[aS];omega)
      rw[eI]at T
      rw[ap.out,HE.out]
      exact T
     generalize L.getD bn 0=bs at *
     clear M X
     gi_wp2
     exact HF
   case done2=>
    rintro D2 ys W' c7 rfl ⟨C,A⟩ ai
    have G:aM W' (w.heap.size+1+1+1) (aE (x.hf3 b)):=by
     have:=C
     rw[dO]at this
     exact this
    have a5:Hid ((x.hf3 b).length=53):=(Cs x ha).len
    have N:aC (aK (w.heap.size+1+1+1)) D W':=a8.trans' A (fun i e=>.inl e)
    have aa:W'.heap[w.heap.size+1+1]?=some (.cells oI 229 (0,0)):=(N.block _ (by omega) (by show¬w.heap.size+1+1=w.heap.size+1+1+1;omega)).trans bj
    have u:W'.heap[m]?=some (.deferred (some [])):=(A.block _ (by omega) (by show¬m=w.heap.size+1+1+1;omega)).trans ((k6.block _ ak).trans a0)
    have Q:=aG (aY R N (by omega))
    clear C A N
    gi_wp2_with (first|(refine kC rfl lO _ rfl rfl G a5 ?_)|(refine kz rfl lO _ _ rfl rfl rfl a5 aa wD ?_))
    show∀w':World,_
    intro w4 b0 F
    have hM:Mk w4 W2.heap.size [{target:=.collected D2,args:=#[]},{target:=.collected m,args:=#[]}]:=by
     have e2:w4.heap[D2]?=some (.deferred (some [])):=(F.block _ (gl ai) (by show¬D2=w.heap.size+1+1;omega)).trans ai
     have T:w4.heap[m]?=some (.deferred (some [])):=(F.block _ (gl u) (by show¬m=w.heap.size+1+1;omega)).trans u
     refine⟨⟨D2,rfl,by omega,e2,fun d' Z e=>?_⟩,⟨m,rfl,bb,T,fun d' Z=>by cases Z⟩,trivial⟩
     simp only[List.mem_singleton]at Z
     subst Z
     simp only[Target.collected.injEq]at e
     omega
    have r:Bw w w4:=Q.trans ⟨F.os,F.tape,F.output,F.size,fun i hi=>F.block i (by have:=Q.size;omega) (by show¬i=w.heap.size+1+1;omega)⟩
    have bf:=aG r
    have Y:(Tryz.prog.info? 229).map (·.size)=some (aE (x.hf3 b)).size:=by rw[aS,a5.out];exact lO.hi
    clear F G aa r
    gi_wp2
    refine iy _ _ hM (fun w' kb=>?_)
    refine⟨_,results_cell_row rfl _ _ (w.heap.size+1+1) 229 (aE (x.hf3 b)) (0,0) _ rfl ((kb.block _ (by omega)).trans b0) Tryz.underlying229 rfl Y,rfl,?_⟩
    exact bf.trans (kb.mono (by omega))
   case stop2=>
    rintro Dn c B W' _ _ h _
    exact h.elim
 case stop=>
  rintro Dn c B W _ _ h _
  exact h.elim
end
theorem DM{t:Nat}{A:Array Value}(h:w.heap[b]?=some (.cells A t (0,0)))(C:A.size=n):w.there b 0 n:=fun j D=>by
 have B:=aA h
 rw[Nat.zero_add,B.cell,B.fz]
 exact⟨by rw[Array.getElem?_eq_getElem (by omega)];rfl,rfl⟩
theorem CG{t:Nat}{A:Array Value}{vs:List Value}(h:w.heap[b]?=some (.cells A t (0,0))){F E D C B:Addr}{y z K J H:Value}(P:w.cell? F=some y)(O:w.cell? E=some z)(N:w.cell? D=some K)(M:w.cell? C=some J)(L:w.cell? B=some H)(R:F.block≠b)(G:E.block≠b/\D.block≠b/\C.block≠b)(Q:B.block≠b):
  (w.setCells b 0 vs).cell? F=some y/\(w.setCells b 0 vs).cell? E=some z/\(w.setCells b 0 vs).cell? D=some K/\(w.setCells b 0 vs).cell? C=some J/\(w.setCells b 0 vs).cell? B=some H:=by
 have k:=(eJ vs 0 A w h).2
 exact⟨(k.cell (aD P) R).trans P,(k.cell (aD O) G.1).trans O,(k.cell (aD N) G.2.1).trans N,(k.cell (aD M) G.2.2).trans M,(k.cell (aD L) Q).trans L⟩
theorem KJ(h:cA w b x)(ok:ft x)(sp:cP x)(wh:vJ x)(aj:x.mutexes< 64)(a3:∀s,s< x.stmts.length->(x.st s).p.nn< 64)(Z:∀s,s< 64->x.spots.testBit s=true->s< 53/\(x.isCall s=true->(x.st s).p.nn< x.begins.length))(d:∀f,f< x.begins.length->x.begins.getD f 0< 53)(a2:∀s,s< x.stmts.length->x.isStart s=true->(x.st s).p.nn< x.begins.length)
  (a1:∀s t,s< 64->x.spots.testBit s=true->t< 64->(x.nextOf s).testBit t=true->t< 53) (hT:Tz w) (hg:0< w.heap.size) (hR:dC (x.passG dT (x.heldB (dB (aW x.mutexes)) x.unA) x.spots) c (x.hf3 (dB (aW x.mutexes)))=some R) (a6:Wd 53 R):
  Calls Tryz.prog 99 #[aF b] w (Rt w (.agg (aE R))):=by
 obtain⟨bv,sv,tv,rv,lv,C,-⟩:=h.ex
 have c1:w.cell? (Ad b 1)=some (aB x.mutexes):=C.cell 1
 have c5:w.cell? (Ad b 5)=some (aH x.spots):=C.cell 5
 have b4:=C.lt
 have ae:=aG (xP x.mutexes aj)
 obtain⟨D,hD⟩:=bM ((w.alloc (.cells #[aF b] 221)).alloc (.cells oI 229))
 have kD:Bw w D:=by rw[hD];exact(ba w _).alloc (by simp) _
 have ah:w.heap.size+1< D.heap.size:=by rw[hD];simp
 have b1:aM D w.heap.size #[aF b]:=by rw[hD];exact(aM.new w _ _).alloc _
 have b2:D.heap[w.heap.size+1]?=some (.cells oI 229 (0,0)):=by rw[hD];exact js w _ _
 have q1:D.cell? (Ad w.heap.size 0)=some (aF b):=b1.cell 0
 have q2:D.cell? (Ad b 1)=some (aB x.mutexes):=bc kD c1
 have b5:b< D.heap.size:=aD q2
 have b0:w.heap.size< D.heap.size:=aD q1
 obtain⟨ab,ag,ay,HD,HH,y,J,a8,aa⟩:=xA kD b1 b2 hD h ok sp wh a3
 obtain⟨E,g,aq,ap,HT,HR,u⟩:=In Z d a2 a1 hT hR a6
 obtain⟨A,O⟩:=bM (dB (aW x.mutexes))
 have N:A< ec:=by rw[O];exact jf _
 rw[<-O]at ae HR
 clear h C ok sp wh a3 Z d a2 a1 hT hR a6 kD b1 b2 hD O
 go_in
 go_wp2_with fail
 rw[<-HD.out]
 go_region_held3 (fun w'=>w'.cell? (Ad w.heap.size 0)=some (aF b)/\w'.cell? (Ad b 1)=some (aB x.mutexes)) (first|exact⟨q1,q2⟩|go_keep) (first|(go_at_call 149;refine(ae _).mono ?_;rintro q wq ⟨rfl,hq⟩;subst wq))
 all_goals
  obtain⟨i,Y⟩:=bM (D.alloc (.cells #[aF b,aH A,.func (.func 150) #[] #[]] 322)).drew
  have k1:Bw D i:=by rw[Y];exact(ba D _).drew
  have b3:aM i D.heap.size #[aF b,aH A,.func (.func 150) #[] #[]]:=by rw[Y];exact(aM.new D _ _).below ⟨rfl,rfl,rfl,Nat.le_refl _,fun _ _=>rfl⟩
  have K:Bw w i:=ab.trans (k1.mono ab.size)
  have t1:i.cell? (Ad w.heap.size 0)=some (aF b):=(ag.below k1).cell 0
  have ar:=aG (xS (HH.keep K) y J a8 aa (HT.below K) (Nat.lt_of_lt_of_le hg K.size))
  rw[<-Y]
  obtain⟨ad,ax,e⟩:=bY k1 b3 K
  clear Y k1 b3 K q1 q2
  go_wp2_with fail
  refine ar.mono ?_
  rintro q w2 ⟨⟨rfl,k⟩,hb2⟩
  obtain⟨G,P⟩:=bM (w2.alloc (.cells #[.slice (some (Ad (i.heap.size+1) 0)) x.begins.length x.begins.length] 323))
  have k3:Bw i G:=by rw[P];exact hb2.alloc hb2.size _
  have B:Bw w G:=e.trans (k3.mono e.size)
  have V:Bw D G:=ad.trans (k3.mono ad.size)
  have n:=ag.below V
  have m:=ax.below k3
  have a7:aM G w2.heap.size #[.slice (some (Ad (i.heap.size+1) 0)) x.begins.length x.begins.length]:=by rw[P];exact aM.new _ _ _
  have a9:Hid (∀f,f< x.begins.length->G.cell? (Ad (i.heap.size+1) f)=some (aH (x.unA.getD f 0:Nat))):=fun f hf=>by rw[P,World.cell?_alloc_lt _ _ _ (aD (k f hf))];exact k f hf
  have r:Hid (∀W,Bw G W->W.cell? (Ad w.heap.size 0)=some (aF b)/\W.cell? (Ad D.heap.size 0)=some (aF b)/\W.cell? (Ad D.heap.size 1)=some (aH A)/\W.cell? (Ad D.heap.size 2)=some (.func (.func 150) #[] #[])/\W.cell? (Ad b 5)=some (aH x.spots)):=fun W T=>by
   have o:=m.below T
   exact⟨(n.below T).cell 0,o.cell 0,o.cell 1,o.cell 2,bc (B.trans (T.mono B.size)) c5⟩
  obtain⟨g1,g2,g3,g4,g5⟩:=r G.drew ((Below.refl _ G).drew)
  have au:Hid (Ca 153 #[aF b,aH A] G.drew (Rt G.drew (.agg (aE (x.hf3 A))))):=xT (HH.keep B.drew) J N (fun s C S=>(E s C S).1) a8.main g aq (HT.below B.drew) (Nat.lt_of_lt_of_le hg B.size)
  have av:Hid (∀W,Bw G W->Ca 152 #[.agg #[aF b,aH A,.func (.func 150) #[] #[]],.agg (aE (x.hf3 A)),aH x.spots,.func (.func 154) #[] #[Pt w.heap.size 0,Pt D.heap.size 0,Pt w2.heap.size 0]] W (Rt W (.agg (aX R).toArray))):=fun W T=>by
   have kw:=B.trans (T.mono B.size)
   refine Fe (HH.keep kw) y J.lt (fun s C S=>⟨J.mem s C S,E s C S⟩) g (Cs x N) ap (fun W' bA l s k' am ak C S=>?_) rh (HT.below kw) (Nat.lt_of_lt_of_le hg kw.size) HR
   have j:=kw.trans (k'.mono kw.size)
   have a0:=J.mem s C S
   exact Ku (HH.keep j) y J (HT.below j) (Nat.lt_of_lt_of_le hg j.size) (fun s C S=>(E s C S).1) ((m.below T).below k') (((a7.below T).below k').cell 0) (fun f hf=>by
    have h0:=a9 f hf
    have C:=bc T h0
    exact bc k' C) a0 (E s C S).1 am ak (((n.below T).below k').cell 0) (E s C S).2 (aa s a0)
  obtain⟨af,ac⟩:=aN ((V.block _ ah).trans ay) B
  have i1:(Tryz.prog.info? 229).map (·.size)=some (aX R).length:=by rw[cG,u.out.len];exact lO.hi
  have i2:(aX R).length=53:=by rw[cG,u.out.len]
  have i3:∀v∈aX R,v.oneCell'=true:=fun v hv=>by
   simp only[aX,List.mem_map]at hv
   obtain⟨a,_,rfl⟩:=hv
   rfl
  have an:=aG P
  have az:D.heap.size<=G.heap.size:=V.size
  clear P k3 B V n m a7 a9 k hb2 t1
  go_wp2_with fail
  rw[<-an.out]
  go_region_held3 (fun w'=>w'.cell? (Ad w.heap.size 0)=some (aF b)/\w'.cell? (Ad D.heap.size 0)=some (aF b)/\w'.cell? (Ad D.heap.size 1)=some (aH A)/\w'.cell? (Ad D.heap.size 2)=some (.func (.func 150) #[] #[])/\w'.cell? (Ad b 5)=some (aH x.spots)) (first|exact⟨j1,j2,j3,j4,j5⟩|exact⟨f1,f2,f3,f4,f5⟩|exact⟨e1,e2,e3,e4,e5⟩|exact⟨g1,g2,g3,g4,g5⟩|go_keep) (first|(go_at_call 153;refine au.mono ?_;rintro q w4 ⟨rfl,H⟩;have M:Bw G w4:=⟨H.os,H.tape,H.output,H.size,H.block⟩;have z:=aG M;obtain⟨e1,e2,e3,e4,e5⟩:=r w4 M;clear H M)|(go_at_call 152;refine(av w4 z).mono ?_;rintro q Q ⟨rfl,a4⟩;have F:Bw G Q:=z.trans (a4.mono z.size);have aw:=aG F;obtain⟨f1,f2,f3,f4,f5⟩:=r Q F;have X:=(F.block (w.heap.size+1) (by omega)).trans af;have ao:=aG X;have tt:Q.there (w.heap.size+1) 0 53:=DM X wD;obtain⟨j1,j2,j3,j4,j5⟩:(Q.setCells (w.heap.size+1) 0 (aX R)).cell? (Ad w.heap.size 0)=some (aF b)/\(Q.setCells (w.heap.size+1) 0 (aX R)).cell? (Ad D.heap.size 0)=some (aF b)/\(Q.setCells (w.heap.size+1) 0 (aX R)).cell? (Ad D.heap.size 1)=some (aH A)/\(Q.setCells (w.heap.size+1) 0 (aX R)).cell? (Ad D.heap.size 2)=some (.func (.func 150) #[] #[])/\(Q.setCells (w.heap.size+1) 0 (aX R)).cell? (Ad b 5)=some (aH x.spots):=CG X f1 f2 f3 f4 f5 (by show w.heap.size≠w.heap.size+1;omega) ⟨by show D.heap.size≠w.heap.size+1;omega,by show D.heap.size≠w.heap.size+1;omega,by show D.heap.size≠w.heap.size+1;omega⟩ (by show b≠w.heap.size+1;omega);clear a4 F X))
  all_goals
   have L:=eJ (aX R) 0 _ Q ao
   rw[lE _ _ (by rw[i2];rfl)]at L
   obtain⟨W6,a5⟩:=bM (Q.setCells (w.heap.size+1) 0 (aX R))
   rw[<-a5]at L⊢
   have HF:Hid (Bw w W6):=aY (ac.trans (aw.mono ac.size)) L.2 (by omega)
   have al:W6.heap[w.heap.size+1]?=some (.cells (aE R) 229 (0,0)):=L.1
   have ai:(Tryz.prog.info? 229).map (·.size)=some (aE R).size:=by rw[aS,u.out.len];exact lO.hi
   clear L a5 tt f1 f2 f3 f4 f5 j1 j2 j3 j4 j5 e1 e2 e3 e4 e5
   go_wp2_with fail
   refine bodyPost_ret (results_cell_row rfl _ _ (w.heap.size+1) 229 (aE R) (0,0) _ rfl al Tryz.underlying229 rfl ai) rfl ⟨rfl,HF⟩
namespace Rp
def mainS(x:Rp):Nat:=x.inOf (x.runs.getD 0 0)
end Rp
theorem Jb(h:cA w a x)(hh:jd w b a c L)(ok:ft x)(sp:cP x)(C:∀s,s< 64->x.spots.testBit s=true->s< 53/\(x.isCall s=true->(x.st s).p.nn< x.begins.length))(e:∀s,s< x.stmts.length->(x.st s).p.nn< 64)(Q:∀f,f< x.begins.length->x.begins.getD f 0< 53)(a2:0< x.runs.length)(hm:x.starts.length< 64)(a4:x.below.length=x.starts.length)(hf:∀s,s< x.stmts.length->(x.st s).fn< 5)(hj:∀s,s< x.stmts.length->(x.st s).p.kind=8->0< (x.st s).r.length/\((x.st s).r.getD 0 ⟨[],0,0,0⟩).num< 6)(hk:∀s k,x.startAt s=some k->k< x.starts.length)
  (Z:∀s t,s< 64->x.spots.testBit s=true->t< 64->(x.nextOf s).testBit t=true->t< 53) (y:Tz w) (hg:0< w.heap.size) (hR:dC (x.passG fV (x.aboutB L) x.mainS) d (List.replicate 53 0)=some R) (V:Wd 53 R):
  Calls Tryz.prog 100 #[aF a,aF b] w (Rt w (.agg (aE R))):=by
 obtain⟨bv,sv,tv,rv,lv,A,-,-,-,h5,-⟩:=h.ex
 obtain⟨J,z,rfl⟩:=aO h5 (by omega)
 have c7:Ce w a 7 (.slice (some (Ad J 0)) x.runs.length z):=A.cell 7
 have i:w.cell? (Ad J 0)=some (aH (x.runs.getD 0 0:Nat)):=by
  rw[h5.cellAt _ (by omega)]
  simp[aX,a2]
 have ah:=A.lt
 have af:J< w.heap.size:=aD i
 have ae:(0:Int)< (x.runs.length:Int):=by omega
 obtain⟨D,S⟩:=bM ((((w.alloc (.cells #[aF a] 221)).alloc (.cells #[aF b] 223)).alloc (.cells oI 233)).alloc (.cells #[aF a,aH 0,.func (.func 158) #[] #[]] 335))
 have M:Bw w D:=by rw[S];exact(((ba w _).alloc (by simp) _).alloc (by simp;omega) _).alloc (by simp;omega) _
 have ac:w.heap.size+1+1+1< D.heap.size:=by rw[S];simp
 have b1:aM D w.heap.size #[aF a]:=by rw[S];exact(((aM.new w _ _).alloc _).alloc _).alloc _
 have b2:aM D (w.heap.size+1) #[aF b]:=by rw[S];exact((aM.new' _ _ _ _ (by simp)).alloc _).alloc _
 have b3:D.heap[w.heap.size+1+1]?=some (.cells oI 233 (0,0)):=by
  rw[S]
  have:=heap_alloc_new ((w.alloc (.cells #[aF a] 221)).alloc (.cells #[aF b] 223)) (.cells oI 233)
  rw[World.size_alloc,World.size_alloc]at this
  exact(Below.heap_alloc _ _ _ (by simp)).trans this
 have b4:aM D (w.heap.size+1+1+1) #[aF a,aH 0,.func (.func 158) #[] #[]]:=by rw[S];exact aM.new' _ _ _ _ (by simp)
 have o:Ce D w.heap.size 0 (aF a):=b1.cell 0
 have n:Ce D a 7 (.slice (some (Ad J 0)) x.runs.length z):=bc M c7
 have m:Ce D J 0 (aH (x.runs.getD 0 0:Nat)):=bc M i
 have a7:Hid (Ca 159 #[aF a,aH (x.runs.getD 0 0:Nat)] D.drew (Rt D.drew (aH x.mainS))):=Jg (h.keep M.drew) ok sp (Nat.lt_of_lt_of_le hg M.size) (y.below M.drew) (x.runs.getD 0 0)
 have F:∀s,s< 64->x.mainS.testBit s=true->x.spots.testBit s=true:=fun s A H=>(jg A H).1
 have a8:Hid (∀W,Bw D W->Ca 160 #[.agg #[aF a,aH 0,.func (.func 158) #[] #[]],.agg oI,aH x.mainS,.func (.func 161) #[] #[Pt w.heap.size 0,Pt (w.heap.size+1+1+1) 0,Pt (w.heap.size+1) 0]] W (Rt W (.agg (aE R)))):=fun W u=>by
  have X:=M.trans (u.mono M.size)
  rw[Jo]
  refine Fd (nn:=0) (h.keep X) ok (jh _ _) (fun s A H=>⟨sp.mem s A (F s A H),C s A (F s A H)⟩) Q sj (fun s t A H h3 h4=>Z s t A (F s A H) h3 h4) (fun W' bA l s v a5 a3 A H=>?_) ru (y.below X) (Nat.lt_of_lt_of_le hg X.size) hR
  have K:=X.trans (v.mono X.size)
  have hs:=F s A H
  have N:=sp.mem s A hs
  exact Ja (h.keep K) ok sp (y.below K) (Nat.lt_of_lt_of_le hg K.size) (fun s A H=>(C s A H).1) ((b4.below u).below v) (e s N) (hh.keep K) N (C s A hs).1 a5 a3 (((b1.below u).below v).cell 0) (((b2.below u).below v).cell 0) hm a4 (hf s N) (hj s N) (hk s)
 obtain⟨aj,ab,aa,j,HD⟩:=ma b1 b3 b4 M S
 have a6:Hid (R.length=53):=V.len
 have a1:(Tryz.prog.info? 233).map (·.size)=some (aE R).size:=by rw[aS,V.len];exact nZ.hi
 generalize x.runs.getD 0 0=r0 at *
 have ad:w.heap.size< D.heap.size:=aD o
 have ai:a< D.heap.size:=aD n
 have ag:J< D.heap.size:=aD m
 clear h hh ok sp C e Q hf hj hk Z y hR V A h5 M b1 b2 b3 b4 S F
 go_in
 go_wp2_with fail
 rw[<-HD.out]
 go_region_held3 (fun w'=>Ce w' w.heap.size 0 (aF a)/\Ce w' a 7 (.slice (some (Ad J 0)) x.runs.length z)/\Ce w' J 0 (aH (r0:Nat))) (first|exact⟨e1,e2,e3⟩|exact⟨o,n,m⟩|go_keep) (first|(go_at_call 159;refine a7.mono ?_;rintro q P ⟨rfl,E⟩;have B:Bw D P:=⟨E.os,E.tape,E.output,E.size,E.block⟩;have G:=aG B;have e1:Ce P w.heap.size 0 (aF a):=bc B o;have e2:Ce P a 7 (.slice (some (Ad J 0)) x.runs.length z):=bc B n;have e3:Ce P J 0 (aH (r0:Nat)):=bc B m;clear E B))
 all_goals
  have O:=aa.below G
  have y0:Ce P (w.heap.size+1+1+1) 0 (aF a):=O.cell 0
  have y1:Ce P (w.heap.size+1+1+1) 1 (aH 0):=O.cell 1
  have y2:Ce P (w.heap.size+1+1+1) 2 (.func (.func 158) #[] #[]):=O.cell 2
  clear O e1 e2 e3 o n m
  go_wp2_with fail
  refine(a8 P G).mono ?_
  rintro q w3 ⟨rfl,T⟩
  have Y:=(T.block _ (by have:=G.size;omega)).trans ((G.block (w.heap.size+1+1) (by omega)).trans ab)
  have a9:Hid (Bw w w3):=by
   have:=j.trans (G.mono j.size)
   exact this.trans (T.mono this.size)
  clear T y0 y1 y2
  go_wp2_with (first|(refine gQ rfl nZ _ _ rfl rfl rfl a6 Y wD ?_))
  show∀w':World,_
  intro w4 a0 g
  have HF:Hid (Bw w w4):=aY a9 g (by omega)
  clear g Y
  go_wp2_with fail
  refine bodyPost_ret (results_cell_row rfl _ _ (w.heap.size+1+1) 233 (aE R) (0,0) _ rfl a0 Tryz.underlying233 rfl a1) rfl ⟨rfl,HF⟩
theorem Dc{f:Nat}{t:ByteArray}{a:Int}(h:cA w c x)(J:jd w b c f l)(R:s< x.stmts.length)(V:(x.st s).fn< 5)(S:n< 6)(P:w.cell? (Ad d 0)=some (aF b))(O:w.cell? (Ad e 0)=some (aB s)):
  Calls Tryz.prog 147 #[.agg #[.string t,aB a,aB n],Pt d 0,Pt e 0] w (Rt w (aH (dT (aQ l ((x.st s).fn*6+n)).1 f:Nat))):=by
 have r1:=gz
 have T:=ka
 obtain⟨D,G⟩:=bM (w.alloc (.cells #[.string t,aB a,aB n] 119))
 have C:Bw w D:=by rw[G];exact ba w _
 have Q:aM D w.heap.size #[.string t,aB a,aB n]:=by rw[G];exact aM.new w _ _
 have E:Hid (∀W,Bw D W->Ce W d 0 (aF b)/\Ce W e 0 (aB s)/\Ce W w.heap.size 0 (.string t)/\Ce W w.heap.size 1 (aB a)/\Ce W w.heap.size 2 (aB n)/\W.cell? (Ad b 0)=some (aH f)):=fun W N=>by
  have H:=C.trans (N.mono C.size)
  have y:=Q.below N
  exact⟨bc H P,bc H O,y.cell 0,y.cell 1,y.cell 2,(J.keep H).sharedC⟩
 obtain⟨j,i,g,Z,Y,X⟩:=E D.drew ((Below.refl _ D).drew)
 obtain⟨K,F,v⟩:=bY (Cw (w:=D.drew) (t:=t) (a:=a) (h.keep C.drew) (J.keep C.drew) R V S) C G
 generalize aQ l ((x.st s).fn*6+n)=z at *
 clear h J C Q G P O
 go_in
 go_wp2_with fail
 rw[<-v.out]
 go_region_held3 (fun w'=>Ce w' d 0 (aF b)/\Ce w' e 0 (aB s)/\Ce w' w.heap.size 0 (.string t)/\Ce w' w.heap.size 1 (aB a)/\Ce w' w.heap.size 2 (aB n)/\Ce w' b 0 (aH f)) (first|exact⟨u,r,p,o,m,k⟩|exact⟨j,i,g,Z,Y,X⟩|go_keep) (first|(go_at_call 148;refine K.mono ?_;rintro q M ⟨rfl,A⟩;have B:Bw D M:=⟨A.os,A.tape,A.output,A.size,A.block⟩;have L:=aG B;obtain⟨u,r,p,o,m,k⟩:=E M B;clear A B))
 all_goals go_wp2_with fail
 all_goals go_ret
 all_goals exact⟨rfl,F.trans (L.mono F.size)⟩
end Go.Proofs.YtajfbbldaiaolaaGreatDoor
