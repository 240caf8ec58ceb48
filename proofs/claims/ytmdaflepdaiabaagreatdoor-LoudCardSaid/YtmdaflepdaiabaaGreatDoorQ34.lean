import Derived.WalkKit
import Derived.ProofKit
import Derived.OpenShut
import Derived.LaidMore
import Derived.Stop.Joined
import Derived.SevenTiedAt
import Derived.Test.YtmdaflepdaiabaaGreatDoorRows
import Derived.Test.YtmdaflepdaiabaaGreatDoorTie
import Derived.Test.YtmdaflepdaiabaaGreatDoorCards
import Derived.Test.YtmdaflepdaiabaaGreatDoorQ33
set_option linter.unusedSimpArgs false
set_option linter.unusedVariables false
namespace Go.Proofs.YtmdaflepdaiabaaGreatDoor
section
set_option maxRecDepth 100000
open Go.ChangeShapes Go.WideShapes Go.ChangeAt Go.RowKit
theorem BQ:ownKnob Tryz.prog.godebug=none:=by kernel_rfl
theorem BX:Tryz.prog.globalNamed "math/bits.deBruijn64tab"=some 0:=by kernel_rfl
theorem BI:(Tryz.prog.globals[0]?).map (·.type)=some 331:=by kernel_rfl
theorem vg{H:Type}:(Rows.laid_math_bits_deBruijn64tab:DataW H)=.agg (Lib.deBruijn64tab.map (fun(n:Nat)=>DataW.lit (.int .u8 (n:Int)))):=rfl
theorem rC{W:World}(h:laidMetH Tryz.prog Rows.loudRow.laid W):Tz W:=by
 rw[MakeChecks.laidMetH_plain _ _ _ (by kernel_rfl)]at h
 obtain⟨ps,⟨g0,t0,cs0,f0,p0,q0,hg0,ht0,hv0,kR,⟨g1,t1,cs1,f1,p1,q1,hg1,ht1,hv1,hd1,_,_⟩,_⟩,_,_⟩:=h
 obtain rfl:=Option.some.inj (BX.symm.trans hg1)
 obtain rfl:=Option.some.inj (BI.symm.trans ht1)
 obtain⟨xs,m,rfl,hx,hlen,hn,hel⟩:=DataW.trod_array Tryz.underlying331 hd1
 have hxs:xs.map (·.1)=Lib.deBruijn64tab.map (fun(n:Nat)=>DataW.lit (.int .u8 (n:Int))):=by
  have:=congrArg Prod.fst hx
  rw[vg]at this
  simp only[DataW.agg.injEq]at this
  exact this.symm
 have c1:Tryz.prog.cellsOf 5=1:=by kernel_rfl
 intro j hj
 have hj64:j< 64:=hj
 have hej:=hel j hj64
 rw[c1,Nat.mul_one]at hej
 obtain⟨x,hxj⟩:∃x,xs[j]?=some x:=⟨_,List.getElem?_eq_getElem (by omega)⟩
 rw[hxj]at hej
 obtain⟨k,e1,e2,_⟩:=DataW.trod_int Tryz.underlying5 hej
 have e3:(xs.map (·.1))[j]?=some x.1:=by rw[List.getElem?_map,hxj];rfl
 rw[hxs,List.getElem?_map,e2]at e3
 have hk:k=(Lib.deBruijn64tab.getD j 0:Nat):=by
  rw[List.getD_eq_getElem?_getD]
  cases h1:Lib.deBruijn64tab[j]? with
  |none=>rw[h1]at e3;cases e3
  |some v=>
   rw[h1]at e3
   simp at e3
   simp[e3]
 have hc:=World.var?_cell hg1 hv1 j
 rw[hc]
 have:cs1.toList[j]?=some (.int .u8 k):=by
  have:=congrArg (fun l=>l[0]?) e1
  simpa[List.getElem?_take,List.getElem?_drop]using this
 rw[←hk]
 simpa using this
theorem nc{w w':World}(k:Below w.heap.size w w')(may:MemPlace→Prop):w.keptBut w' may:=by
 refine⟨k.os,k.output,fun i hi=>?_⟩
 rw[k.block i hi]
 cases w.heap[i]? with
 |none=>rfl
 |some o=>cases o<;>simp
theorem wF(os:Os)(args:Array Value):laidMetH Tryz.prog Rows.loudRow.laid ((World.doorLaid Tryz.prog 400 os).forCall (fun _ _=>0) ⟨#[],args,[]⟩).memory:=
 laidMetH_of_parts3 (fuel:=8) (laidMet_of_run' 8 (by kernel_rfl) (by kernel_rfl)) (by kernel_rfl) (by kernel_rfl)
theorem zZ(os:Os)(started:os.Started)(H:Type)(enc:TypeId×Value→H):
  ReturnsInHanded {} Tryz.checked os 3 .any (fun w args=>(Rows.loudSpec.pre enc Tryz.prog Tryz.f3 [] false w args∧laidMetH Tryz.prog Rows.loudRow.laid w)∧sizedMet enc Tryz.prog Tryz.f3 (OpenSpec.ofChange Rows.loudSpec) false w args)
   (Rows.loudSpec.post enc Tryz.prog Tryz.f3 false true false false):=by
 refine returnsInHanded_of_change_and (C:=Tryz.checked) (X:=fun w _=>laidMetH Tryz.prog Rows.loudRow.laid w) (fun _ _ _ hh h=>h.of_heap hh) BQ started (by kernel_rfl) Tryz.func3
  (ChangeSpec.witness_shaped (enc:=enc) (C:=Tryz.checked) (os:=os) (X:=fun w _=>laidMetH Tryz.prog Rows.loudRow.laid w) false (World.doorLaid Tryz.prog 400 os) #[.int .i64 0,.int .i64 0] 8 rfl (World.shaped_of_RefB (by kernel_rfl) (by kernel_rfl)) (by kernel_rfl) (by kernel_rfl) (by kernel_rfl) (wF os _)) ?_
 intro W base args ds gs before hval0 hW _ _ hL _
 have hval:∀(j:Nat) t v,Tryz.f3.params[j]?=some t→args[j]?=some v→Value.okWide Tryz.prog W .any base t v:=hval0
 have hW':=hW
 obtain⟨p,q,hA0,hV,rfl,hfz,hnd⟩:=hW
 have hA:DataW.TrodAll enc Tryz.prog W 0 (fun _=>true) true Tryz.f3.params.toList args.toList ds p:=hA0
 rw[Tryz.params3]at hA hval
 obtain⟨v0,vs0,d0,ds0,p0,q0,hargs,rfl,rfl,h0,r0⟩:=trodAll_cons hA
 obtain⟨v1,vs1,d1,ds1,p1,q1,rfl,rfl,rfl,h1,r1⟩:=trodAll_cons r0
 obtain⟨rfl,rfl,rfl⟩:=trodAll_nil r1
 obtain rfl:args=#[v0,v1]:=by cases args;simp_all
 obtain⟨rfl,rfl⟩:=trodVars_none hV
 obtain⟨a0,rfl,rfl,rfl,w0⟩:=open_int Tryz.underlying3 (hval 0 3 v0 rfl rfl) h0
 obtain⟨a1,rfl,rfl,rfl,w1⟩:=open_int Tryz.underlying3 (hval 1 3 v1 rfl rfl) h1
 clear hA0 hval0
 simp only[List.append_nil]at hW'
 have hT:=rC hL
 have hg:0< W.heap.size:=ah (hT 0 (by decide))
 refine(wg a0 a1 ?_ ?_ hT hg).mono fun e W' ⟨he,hb⟩=>?_
 ·have:=w0;simp[Lit.wf]at this;exact⟨this.1,this.2⟩
 ·have:=w1;simp[Lit.wf]at this;exact⟨this.1,this.2⟩
 subst he
 exact⟨_,rfl,_,_,_,[],[],[],hW',trodAll_cons_mk (shut_bool Tryz.underlying4 _) trodAll_mk0,trodAll_cons_mk (shut_int Tryz.underlying3 w0) (trodAll_cons_mk (shut_int Tryz.underlying3 w1) trodAll_mk0),rfl,nc hb _,fun h=>by cases h⟩
theorem vX:Rows.LoudSaid:=
 OpenClaim.holds_of_wide 3 Tryz.f3 rfl rfl rfl rfl rfl rfl rfl ⟨rfl,rfl,rfl,rfl,rfl⟩ rfl rfl rfl rfl rfl (by kernel_rfl) Tryz.func3 (by kernel_rfl)
  (of_decide_eq_true (by kernel_rfl)) (by unfold Func.isWrapper;first|(rw[if_pos (by decide+kernel)];kernel_rfl)|(rw[if_neg (by decide+kernel)];exact⟨rfl,rfl⟩))
  (fun os started H enc _=>zZ os started H enc)
theorem loud_holds:Rows.LoudCardSaid:=
 Claim7.holds_tied_plain_at .later [] [.data,.data,.data,.sentinel,.sentinel] true (true,"4c3705477c082ecd1d7c876a694211832d172f4b4be791d2e267a7b79b63236b") true
  vX (fun _ h=>by cases h) (by kernel_rfl) (fun _ h=>by cases h) loud_row_tie rfl ⟨rfl,rfl⟩ (by kernel_rfl) rfl
  (fun f fn hf hfn=>by
   obtain rfl:f=3:=Option.some.inj ((show Tryz.prog.funcNamed "races/raceskeep.Loud"=some 3 by kernel_rfl).symm.trans hf) |>.symm
   obtain rfl:fn=Tryz.f3:=(Option.some.inj (Tryz.func3.symm.trans hfn)).symm
   exact⟨by kernel_rfl,fun j t ht=>by
    rw[Tryz.params3]at ht
    have hm:t∈[3,3]:=by simpa using Array.mem_of_getElem? ht
    have hall:([3,3].all fun u=>!Tryz.prog.wantsStandIn u)=true:=by kernel_rfl
    exact(show Tryz.prog.wantsStandIn t=false by simpa using List.all_eq_true.1 hall t hm)⟩)
  (by kernel_rfl)
#print axioms loud_holds
end
end Go.Proofs.YtmdaflepdaiabaaGreatDoor
