import Derived.WalkKit
import Derived.ProofKit
import Derived.OpenShut
import Derived.LaidMore
import Derived.Stop.Joined
import Derived.SevenTiedAt
import Derived.Test.YtajfbbldaiaolaaGreatDoorRows
import Derived.Test.YtajfbbldaiaolaaGreatDoorTie
import Derived.Test.YtajfbbldaiaolaaGreatDoorCards
import Derived.Test.YtajfbbldaiaolaaGreatDoorQ31
import Derived.Test.YtajfbbldaiaolaaGreatDoorQ36
set_option linter.unusedSimpArgs false
set_option linter.unusedVariables false
set_option maxRecDepth 100000
namespace Go.Proofs.YtajfbbldaiaolaaGreatDoor
open Go.ChangeShapes Go.WideShapes Go.ChangeAt Go.RowKit
theorem LI:ownKnob Tryz.prog.godebug=none:=by kernel_rfl
theorem LW:Tryz.prog.globalNamed "math/bits.deBruijn64tab"=some 0:=by kernel_rfl
theorem Lo:(Tryz.prog.globals[0]?).map (·.type)=some 436:=by kernel_rfl
theorem Bc{H:Type}:(Rows.laid_math_bits_deBruijn64tab:DataW H)=.agg (Lib.deBruijn64tab.map (fun(n:Nat)=>DataW.lit (.int .u8 (n:Int)))):=rfl
theorem wJ{W:World}(h:laidMetH Tryz.prog Rows.quietRow.laid W):Tz W:=by
 rw[MakeChecks.laidMetH_plain _ _ _ (by kernel_rfl)]at h
 obtain⟨g,⟨r,d,a,t,o,f,V,R,Q,ow,⟨q,c,M,s,i,e,E,J,H,L,_,_⟩,_⟩,_,_⟩:=h
 obtain rfl:=Option.some.inj (LW.symm.trans E)
 obtain rfl:=Option.some.inj (Lo.symm.trans J)
 obtain⟨F,m,rfl,P,N,p,K⟩:=DataW.trod_array Tryz.underlying436 L
 have G:F.map (·.1)=Lib.deBruijn64tab.map (fun(n:Nat)=>DataW.lit (.int .u8 (n:Int))):=by
  have:=congrArg Prod.fst P
  rw[Bc]at this
  simp only[DataW.agg.injEq]at this
  exact this.symm
 have b:Tryz.prog.cellsOf 5=1:=by kernel_rfl
 intro j T
 have D:j< 64:=T
 have A:=K j D
 rw[b,Nat.mul_one]at A
 obtain⟨x,C⟩:∃x,F[j]?=some x:=⟨_,List.getElem?_eq_getElem (by omega)⟩
 rw[C]at A
 obtain⟨k,Z,Y,_⟩:=DataW.trod_int Tryz.underlying5 A
 have B:(F.map (·.1))[j]?=some x.1:=by rw[List.getElem?_map,C];rfl
 rw[G,List.getElem?_map,Y]at B
 have S:k=(Lib.deBruijn64tab.getD j 0:Nat):=by
  rw[List.getD_eq_getElem?_getD]
  cases O:Lib.deBruijn64tab[j]? with
  |none=>rw[O]at B;cases B
  |some v=>
   rw[O]at B
   simp at B
   simp[B]
 have X:=World.var?_cell E H j
 rw[X]
 have:M.toList[j]?=some (.int .u8 k):=by
  have:=congrArg (fun l=>l[0]?) Z
  simpa[List.getElem?_take,List.getElem?_drop]using this
 rw[<-S]
 simpa using this
theorem qK{w w':World}(k:Bw w w')(A:MemPlace->Prop):w.keptBut w' A:=by
 refine⟨k.os,k.output,fun i B=>?_⟩
 rw[k.block i B]
 cases w.heap[i]? with
 |none=>rfl
 |some o=>cases o<;>simp
theorem CK(os:Os)(args:Array Value):laidMetH Tryz.prog Rows.quietRow.laid ((World.doorLaid Tryz.prog 400 os).forCall (fun _ _=>0) ⟨#[],args,[]⟩).memory:=
 laidMetH_of_parts3 (fuel:=8) (laidMet_of_run' 8 (by kernel_rfl) (by kernel_rfl)) (by kernel_rfl) (by kernel_rfl)
theorem Ii(os:Os)(mM:os.Started)(H:Type)(enc:TypeId×Value->H):
  ReturnsInHanded {} Tryz.checked os 3 .any (fun w args=>(Rows.quietSpec.pre enc Tryz.prog Tryz.f3 [] false w args/\laidMetH Tryz.prog Rows.quietRow.laid w)/\sizedMet enc Tryz.prog Tryz.f3 (OpenSpec.ofChange Rows.quietSpec) false w args)
   (Rows.quietSpec.post enc Tryz.prog Tryz.f3 false true false false):=by
 refine returnsInHanded_of_change_and (C:=Tryz.checked) (X:=fun w _=>laidMetH Tryz.prog Rows.quietRow.laid w) (fun _ _ _ Y h=>h.of_heap Y) LI mM (by kernel_rfl) Tryz.func3
  (ChangeSpec.witness_shaped (enc:=enc) (C:=Tryz.checked) (os:=os) (X:=fun w _=>laidMetH Tryz.prog Rows.quietRow.laid w) false (World.doorLaid Tryz.prog 400 os) #[aB 0,aB 0] 8 rfl (World.shaped_of_RefB (by kernel_rfl) (by kernel_rfl)) (by kernel_rfl) (by kernel_rfl) (by kernel_rfl) (CK os _)) ?_
 intro W F args l u G A O _ _ d _
 have B:∀(j:Nat) t v,Tryz.f3.params[j]?=some t->args[j]?=some v->Value.okWide Tryz.prog W .any F t v:=A
 have D:=O
 obtain⟨p,q,E,c,rfl,Z,V⟩:=O
 have Q:DataW.TrodAll enc Tryz.prog W 0 (fun _=>true) true Tryz.f3.params.toList args.toList l p:=E
 rw[Tryz.params3]at Q B
 obtain⟨N,S,y,k,s,o,J,rfl,rfl,g,T⟩:=trodAll_cons Q
 obtain⟨M,R,x,i,r,n,rfl,rfl,rfl,f,r1⟩:=trodAll_cons T
 obtain⟨rfl,rfl,rfl⟩:=trodAll_nil r1
 obtain rfl:args=#[N,M]:=by cases args;simp_all
 obtain⟨rfl,rfl⟩:=trodVars_none c
 obtain⟨a0,rfl,rfl,rfl,L⟩:=open_int Tryz.underlying3 (B 0 3 N rfl rfl) g
 obtain⟨m,rfl,rfl,rfl,K⟩:=open_int Tryz.underlying3 (B 1 3 M rfl rfl) f
 clear E A
 simp only[List.append_nil]at D
 have P:=wJ d
 have hg:0< W.heap.size:=aD (P 0 (by decide))
 refine(zP a0 m ?_ ?_ P hg).mono fun e W' ⟨a,b⟩=>?_
 ·have:=L;simp[Lit.wf]at this;exact⟨this.1,this.2⟩
 ·have:=K;simp[Lit.wf]at this;exact⟨this.1,this.2⟩
 subst a
 exact⟨_,rfl,_,_,_,[],[],[],D,trodAll_cons_mk (shut_bool Tryz.underlying4 _) trodAll_mk0,trodAll_cons_mk (shut_int Tryz.underlying3 L) (trodAll_cons_mk (shut_int Tryz.underlying3 K) trodAll_mk0),rfl,qK b _,fun h=>by cases h⟩
theorem zt:Rows.QuietSaid:=
 OpenClaim.holds_of_wide 3 Tryz.f3 rfl rfl rfl rfl rfl rfl rfl ⟨rfl,rfl,rfl,rfl,rfl⟩ rfl rfl rfl rfl rfl (by kernel_rfl) Tryz.func3 Fx
  (of_decide_eq_true (by kernel_rfl)) (by unfold Func.isWrapper;first|(rw[if_pos (by decide+kernel)];kernel_rfl)|(rw[if_neg (by decide+kernel)];exact⟨rfl,rfl⟩))
  (fun os mM H enc _=>Ii os mM H enc)
theorem quiet_holds:Rows.QuietCardSaid:=
 Claim7.holds_tied_plain_at .later [] [.data,.data,.data,.sentinel,.sentinel] true (true,"5394ec58969780008a9f1e4876ed957b5dc347354a45c2321131d1b43b22d0cb") true
  zt (fun _ h=>by cases h) (by kernel_rfl) (fun _ h=>by cases h) quiet_row_tie rfl ⟨rfl,rfl⟩ (by kernel_rfl) rfl
  (fun f F E B=>by
   obtain rfl:f=3:=Option.some.inj ((show Tryz.prog.funcNamed "races/raceskeep.Quiet"=some 3 by kernel_rfl).symm.trans E) |>.symm
   obtain rfl:F=Tryz.f3:=(Option.some.inj (Tryz.func3.symm.trans B)).symm
   exact⟨by kernel_rfl,fun j t C=>by
    rw[Tryz.params3]at C
    have D:t∈[3,3]:=by simpa using Array.mem_of_getElem? C
    have A:([3,3].all fun u=>!Tryz.prog.wantsStandIn u)=true:=by kernel_rfl
    exact(show Tryz.prog.wantsStandIn t=false by simpa using List.all_eq_true.1 A t D)⟩)
  (by kernel_rfl)
#print axioms quiet_holds
end Go.Proofs.YtajfbbldaiaolaaGreatDoor
