import Derived.Test.YtmdaflepdaiabaaGreatDoorQ20
set_option linter.unusedSimpArgs false
set_option linter.unusedVariables false
namespace Go.Proofs.YtmdaflepdaiabaaGreatDoor
section
set_option maxRecDepth 100000
set_option maxHeartbeats 4000000
open Go.RowKit Go.Shelf
theorem sQ(a0 a1 a2 a3 a4 a5 a6 a7 a8 a9:Int)(w:World):(Instr.index 215 (.agg #[.int .u64 a0,.int .u64 a1,.int .u64 a2,.int .u64 a3,.int .u64 a4,.int .u64 a5,.int .u64 a6,.int .u64 a7,.int .u64 a8,.int .u64 a9]) (.int .i64 1)).run Tryz.prog w=.ok (.agg #[.int .u64 a2,.int .u64 a3]) w:=by kernel_rfl
theorem sP(a0 a1 a2 a3 a4 a5 a6 a7 a8 a9:Int)(w:World):(Instr.index 215 (.agg #[.int .u64 a0,.int .u64 a1,.int .u64 a2,.int .u64 a3,.int .u64 a4,.int .u64 a5,.int .u64 a6,.int .u64 a7,.int .u64 a8,.int .u64 a9]) (.int .i64 2)).run Tryz.prog w=.ok (.agg #[.int .u64 a4,.int .u64 a5]) w:=by kernel_rfl
theorem sO(a0 a1 a2 a3 a4 a5 a6 a7 a8 a9:Int)(w:World):(Instr.index 215 (.agg #[.int .u64 a0,.int .u64 a1,.int .u64 a2,.int .u64 a3,.int .u64 a4,.int .u64 a5,.int .u64 a6,.int .u64 a7,.int .u64 a8,.int .u64 a9]) (.int .i64 3)).run Tryz.prog w=.ok (.agg #[.int .u64 a6,.int .u64 a7]) w:=by kernel_rfl
theorem sN(a0 a1 a2 a3 a4 a5 a6 a7 a8 a9:Int)(w:World):(Instr.index 215 (.agg #[.int .u64 a0,.int .u64 a1,.int .u64 a2,.int .u64 a3,.int .u64 a4,.int .u64 a5,.int .u64 a6,.int .u64 a7,.int .u64 a8,.int .u64 a9]) (.int .i64 4)).run Tryz.prog w=.ok (.agg #[.int .u64 a8,.int .u64 a9]) w:=by kernel_rfl
theorem pA{k:Nat}(hk:k< 5)(w:World):∀(l:List Nat),l.length=10→(Instr.index 215 (.agg (ab l)) (.int .i64 k)).run Tryz.prog w=.ok (.agg #[.int .u64 (l.getD (2*k) 0:Nat),.int .u64 (l.getD (2*k+1) 0:Nat)]) w
 |[a0,a1,a2,a3,a4,a5,a6,a7,a8,a9],_=>by
  rcases(by omega:k=0∨k=1∨k=2∨k=3∨k=4)with rfl|rfl|rfl|rfl|rfl
  ·exact uW _ _ _ _ _ _ _ _ _ _ w
  ·exact sQ _ _ _ _ _ _ _ _ _ _ w
  ·exact sP _ _ _ _ _ _ _ _ _ _ w
  ·exact sO _ _ _ _ _ _ _ _ _ _ w
  ·exact sN _ _ _ _ _ _ _ _ _ _ w
def gO(cs:List Nat):List Nat:=(cs.drop 60).take 10
theorem jc{cs:List Nat}(h:cs.length=104):(gO cs).length=10:=by simp[gO,h]
theorem lO{cs:List Nat}(h:cs.length=104){j:Nat}(hj:j< 10):(gO cs).getD j 0=cs.getD (60+j) 0:=by
 unfold gO
 simp only[List.getD_eq_getElem?_getD,List.getElem?_take,List.getElem?_drop,if_pos hj]
theorem rA(cs:List Nat)(k:Nat):gi cs (k+1)=wS (gi cs k) (ax cs (30+k)):=by
 unfold gi
 rw[List.range_succ,da]
def tp(z:Nat×Nat):List Nat:=[z.1,z.2]
structure pB(w wr:World)(bH:Nat)(z:Nat×Nat):Prop where
 kp:Below w.heap.size w wr
 bx:an wr w.heap.size #[ak bH]
 fi:an wr (w.heap.size+1) (ab (tp z))
theorem pB.keep{w wr w':World}{bH:Nat}{z:Nat×Nat}(h:pB w wr bH z)(k:Below wr.heap.size wr w'):pB w w' bH z:=⟨h.kp.trans (k.mono h.kp.size),h.bx.below k,h.fi.below k⟩
theorem pB.add{w wr w':World}{bH:Nat}{z v:Nat×Nat}(h:pB w wr bH z)(k:ae (ao (w.heap.size+1)) wr w')(hb:an w' (w.heap.size+1) (ab (addAt (tp z) 0 v))):pB w w' bH (wS z v):=
 ⟨aE h.kp k (by omega),h.bx.kept k (by show¬w.heap.size=w.heap.size+1;omega),hb⟩
theorem yn{w:World}{bH bR sh R:Nat}{cs:List Nat}{x:Rp}(h:aP w bR x)(hh:gN w bH bR sh cs)(hx:∀k,k< x.starts.length→x.starts.getD k 0< x.stmts.length∧x.starts.getD k 0< 64)(hso:∀s,s< x.stmts.length→gM (x.st s))(hm:x.starts.length< 64)
  (hT:Tz w) (hg:0< w.heap.size) (hR:bK (yZ cs) 70 (x.firstH cs).1 (x.firstH cs).1=some R) (hf:(x.firstH cs).1< bI) (h6:R< 64):
  Calls Tryz.prog 98 #[ak bH] w fun r w'=>r=.returned (.int .u64 R)∧Below w.heap.size w w':=by
 have hcl:=hh.len
 obtain⟨bv,sv,tv,rv,lv,h1,h2,h3,h4,-⟩:=h.ex
 obtain⟨pt,ct,rfl⟩:=ai h4
 have c1:w.cell? ⟨bH,1,none⟩=some (ak bR):=hh.src
 have hHl:bH< w.heap.size:=ah c1
 have hRl:=h1.lt
 have s4:w.cell? ⟨bR,4,none⟩=some (.slice pt x.starts.length ct):=h1.cell 4
 have s5:w.cell? ⟨bR,5,none⟩=some (.int .u64 x.spots):=h1.cell 5
 obtain⟨W0,hW0⟩:∃W,W=(w.alloc (.cells #[ak bH] 165)).alloc (.cells #[.int .u64 0,.int .u64 0] 212):=⟨_,rfl⟩
 have HI0:Hid (pB w W0 bH (0,0)):=by
  rw[hW0]
  refine⟨((Below.refl _ w).alloc (Nat.le_refl _) _).alloc (by simp) _,(an.new w _ _).alloc _,?_⟩
  exact an.new' _ _ _ _ (by simp)
 have hru:Tryz.prog.underlying 215=some (.array 5 212):=Tryz.underlying215
 have hri:(Tryz.prog.info? 215).map (·.size)=some (aH (gO cs)).length:=by rw[aV,jc hcl];kernel_rfl
 have HRG:Hid (∀W,Below w.heap.size w W→W.rangeAt bH 63 (aH (gO cs))):=fun W kk j v hv=>by
  have hj:j< 10:=by have:=(List.getElem?_eq_some_iff.1 hv).1;rw[aV,jc hcl]at this;exact this
  rw[kk.cell (p:=⟨bH,63+j,none⟩) hHl]
  have:=hh.word (j:=60+j) (by omega)
  rw[show 3+(60+j)=63+j by omega]at this
  rw[this,←lO hcl hj,←hv]
  simp[aH,jc hcl,hj]
 have HH:=aa h
 have HHH:=aa hh
 have HX:=aa hx
 have HSO:=aa hso
 have H4:=aa h4
 have HT:=aa hT
 have HR:=aa hR
 have HW0:=aa hW0
 clear h hh hx hso h1 h2 h3 h4 hT hR hW0
 have q1:W0.cell? ⟨w.heap.size,0,none⟩=some (ak bH):=HI0.out.bx.cell 0
 have hrg:=HRG.out W0 HI0.out.kp
 go_enter Tryz.func98,Tryz.ntmps98
 go_wp2_with (first|(rw[←HW0.out];refine wpList_load_mid rfl 215 _ rfl bH 63 rfl (aH (gO cs)) _ hrg hru rfl hri ?_))
 clear q1 hrg hru hri
 go_loopw [16] (fun i wr=>∃k:Nat,i=.int .i64 k∧Hid (k≤5)∧Hid (pB w wr bH (gi cs k))) (fun i _=>5-(intOf i).toNat)
 case atStart=>exact⟨0,rfl,(by decide:(0:Nat)≤5),HI0⟩
 case round=>
  obtain⟨k,rfl,HKL,HI⟩:=hrel
  have hkl:=HKL.out
  by_cases hk:k=5
  ·have hkn:¬((k:Int)< 5):=by omega
   have HJ0:Hid (pB w wr bH (gi cs 5)):=by rw[←hk];exact HI
   have q1:wr.cell? ⟨w.heap.size,0,none⟩=some (ak bH):=HI.out.bx.cell 0
   have q2:wr.cell? ⟨bH,1,none⟩=some (ak bR):=(HI.out.kp.cell (p:=⟨bH,1,none⟩) hHl).trans c1
   have q3:wr.cell? ⟨bR,4,none⟩=some (.slice pt x.starts.length ct):=(HI.out.kp.cell (p:=⟨bR,4,none⟩) hRl).trans s4
   clear hk hkl HKL HI
   go_wp2_with fail
   clear q1 q2 q3 hkn
   rename World=>wo
   go_loopw [30] (fun i wr=>∃j:Nat,i=.int .i64 j∧Hid (j≤x.starts.length)∧Hid (pB w wr bH ((x.starts.take j).foldl (x.startH cs) (gi cs 5)))) (fun i _=>x.starts.length-(intOf i).toNat)
   case atStart=>exact⟨0,rfl,Nat.zero_le _,HJ0⟩
   case round=>
    obtain⟨j,rfl,HJL,HJ⟩:=hrel
    obtain⟨wj,hwj⟩:∃W:World,W=wr:=⟨_,rfl⟩
    subst hwj
    have hjl:=HJL.out
    by_cases hj:j=x.starts.length
    ·have hjn:¬((j:Int)< (x.starts.length:Int)):=by omega
     have HF:Hid (pB w wj bH (x.firstH cs)):=by
      have:=HJ.out
      rw[hj,List.take_length]at this
      exact this
     have q1:wj.cell? ⟨w.heap.size+1,0,none⟩=some (.int .u64 (x.firstH cs).1):=HF.out.fi.cell 0
     have HRE:Hid (Calls Tryz.prog 155 #[.int .u64 (x.firstH cs).1,.func (.func 156) #[] #[.pointer (some ⟨w.heap.size,0,none⟩)]] wj fun r w'=>r=.returned (.int .u64 R)∧Below wj.heap.size wj w'):=by
      refine rI (x.firstH cs).1 R hf (yZ cs) 156 #[] _ wj (Nat.lt_of_lt_of_le hg HF.out.kp.size) (HT.out.below HF.out.kp) ⟨70,HR.out⟩ (fun t W ht hbit kk=>?_) nz
      exact wn (HHH.out.keep (HF.out.kp.trans (kk.mono HF.out.kp.size))) ((HF.out.keep kk).bx.cell 0) (oZ h6 hbit)
     clear hj hjl HJL HJ
     go_wp2_with fail
     refine HRE.out.mono ?_
     rintro q w2 ⟨rfl,hb2⟩
     have HB2:=aa hb2
     clear hb2
     go_wp2_with fail
     go_ret
     exact⟨rfl,HF.out.kp.trans (HB2.out.mono HF.out.kp.size)⟩
    ·have hjd:j< x.starts.length:=by omega
     have hjn:((j:Int)< (x.starts.length:Int)):=by omega
     clear hj
     obtain⟨gt,rfl⟩:∃g,pt=some ⟨g,0,none⟩:=by
      obtain⟨g,c',e⟩:=aG H4.out (by omega)
      cases e;exact⟨g,rfl⟩
     obtain⟨hsl,hs64⟩:=HX.out j hjd
     have HTK:Hid ((x.starts.take (j+1)).foldl (x.startH cs) (gi cs 5)=x.startH cs ((x.starts.take j).foldl (x.startH cs) (gi cs 5)) (x.starts.getD j 0)):=by
      show _=_
      have e:x.starts[j]?=some (x.starts.getD j 0):=by rw[List.getD_eq_getElem?_getD,List.getElem?_eq_getElem hjd];rfl
      rw[List.take_add_one,e]
      exact da _ _ _ _
     obtain⟨s,hs⟩:∃s,s=x.starts.getD j 0:=⟨_,rfl⟩
     have z0:wj.cell? ⟨gt,j,none⟩=some (.int .i64 s):=by
      rw[HJ.out.kp.cell (p:=⟨gt,j,none⟩) (H4.out.lt gt rfl).2,H4.out.cellAt _ (by omega),hs]
      simp[bV,hjd]
     have z0':wj.cell? ⟨gt,j*1,none⟩=some (.int .i64 s):=by rw[Nat.mul_one];exact z0
     rw[←hs]at hsl hs64 HTK
     obtain⟨z,hz⟩:∃z,z=(x.starts.take j).foldl (x.startH cs) (gi cs 5):=⟨_,rfl⟩
     rw[←hz]at HTK
     have HJz:Hid (pB w wj bH z):=by rw[hz];exact HJ
     have q1:wj.cell? ⟨w.heap.size,0,none⟩=some (ak bH):=HJz.out.bx.cell 0
     have q2:wj.cell? ⟨bH,1,none⟩=some (ak bR):=(HJz.out.kp.cell (p:=⟨bH,1,none⟩) hHl).trans c1
     have q5:wj.cell? ⟨bR,5,none⟩=some (.int .u64 x.spots):=(HJz.out.kp.cell (p:=⟨bR,5,none⟩) hRl).trans s5
     have HHS:=aa (jh x.spots s hs64 wj)
     clear hs hz HJ hjl HJL
     cases hu:dB x.spots s
     ·have HTK2:Hid (pB w wj bH ((x.starts.take (j+1)).foldl (x.startH cs) (gi cs 5))):=by
       show pB _ _ _ _
       rw[HTK.out]
       unfold Rp.startH
       rw[hu]
       exact HJz.out
      rw[hu]at HHS
      go_wp2_with fail
      refine HHS.out.mono ?_
      rintro q wq ⟨rfl,hq⟩
      subst wq
      go_wp2_with fail
      go_roundw
      case rel=>exact⟨j+1,by go_num,(by omega:j+1≤x.starts.length),HTK2⟩
      case measure=>simp[intOf];omega
     ·rw[hu]at HHS
      have HTK2:Hid (x.startH cs z s=li cs (x.st s).fn (x.st s).r z):=by show _=_;unfold Rp.startH;rw[hu];rfl
      obtain⟨g,c,bs,sr,sb,y3,y4,y5,y6,y7,hbs,hrow,hbo,hro,-⟩:=HH.out.stmO HJz.out.kp hsl
      have so:=HSO.out s hsl
      obtain⟨pr,cr,rfl⟩:=ai hrow
      have y12:wj.cell? ⟨bs,12,none⟩=some (.slice pr (x.st s).r.length cr):=hbs.cell 12
      have hbl:bs< wj.heap.size:=hbs.lt
      have hGl:g< wj.heap.size:=ah y4
      have hRr:bR< wj.heap.size:=ah y3
      have hHr:bH< wj.heap.size:=ah q2
      generalize x.st s=st at *
      obtain⟨W7,hW7⟩:∃W,W=wj.alloc (.cells #[ak bs,.int .i64 st.fn,.int .i64 st.nx,.int .i64 st.ins] 197):=⟨_,rfl⟩
      have k7:Below wj.heap.size wj W7:=by rw[hW7];exact(Below.refl _ wj).alloc (Nat.le_refl _) _
      have HI7:=aa (HJz.out.keep k7)
      have HB7:Hid (an W7 wj.heap.size #[ak bs,.int .i64 st.fn,.int .i64 st.nx,.int .i64 st.ins]):=by show an _ _ _;rw[hW7];exact an.new _ _ _
      have HW7:=aa hW7
      have HRO:=aa (ay hrow k7)
      have HRB:Hid (∀i,(Value.slice pr st.r.length cr).ownBlock=some i→i< w.heap.size):=hro
      have hfn:=so.fn
      have HNM:=aa so.num
      have hrl:=so.len
      have hwz:w.heap.size+1< wj.heap.size:=HJz.out.fi.lt
      have hw7:wj.heap.size< W7.heap.size:=HB7.out.lt
      clear hbs hrow k7 hW7 so hro
      go_wp2_with fail
      refine HHS.out.mono ?_
      rintro q wq ⟨rfl,hq⟩
      subst wq
      go_wp2_with fail
      rw[←HW7.out]
      clear z0 z0' q1 q2 q5 y3 y4 y5 y6 y7 y12
      go_loopw [60] (fun i wr=>∃k:Nat,i=.int .i64 k∧Hid (k≤st.r.length)∧Hid (ae (ao (w.heap.size+1)) W7 wr)∧Hid (pB w wr bH (li cs st.fn (st.r.take k) z))) (fun i _=>st.r.length-(intOf i).toNat)
      case atStart=>exact⟨0,rfl,Nat.zero_le _,ae.refl _ _,HI7⟩
      case round=>
       obtain⟨k,rfl,HKL,HK3,HI⟩:=hrel
       have hkl:=HKL.out
       by_cases hk:k=st.r.length
       ·have hkn:¬((k:Int)< (st.r.length:Int)):=by omega
        have HN:Hid (pB w wr bH ((x.starts.take (j+1)).foldl (x.startH cs) (gi cs 5))):=by
         have:=HI.out
         rw[hk,List.take_length,←HTK2.out,←HTK.out]at this
         exact this
        clear hk hkl
        go_wp2_with fail
        go_roundw
        case rel=>exact⟨j+1,by go_num,(by omega:j+1≤x.starts.length),HN⟩
        case measure=>simp[intOf];omega
       ·have hkd:k< st.r.length:=by omega
        have hkn:((k:Int)< (st.r.length:Int)):=by omega
        clear hk
        obtain⟨a,ha⟩:∃a,st.r[k]?=some a:=⟨_,List.getElem?_eq_getElem hkd⟩
        have hna:=HNM.out a (List.mem_of_getElem? ha)
        obtain⟨gr,rfl⟩:∃gr,pr=some ⟨gr,0,none⟩:=by
         obtain⟨g,c',e⟩:=aG HRO.out (by omega)
         cases e;exact⟨g,rfl⟩
        have hgl:gr< W7.heap.size:=(HRO.out.lt gr rfl).2
        have hgb:=HRB.out gr rfl
        have hcc:∀i,i< 4→wr.cell? ⟨gr,k*4+i,none⟩=(vH a)[i]?:=fun i hi=>by
         rw[HK3.out.cell (p:=⟨gr,k*4+i,none⟩) hgl (by show¬gr=w.heap.size+1;omega),HRO.out.cellAt _ (by omega),jP ha i hi]
        have y0:wr.cell? ⟨gr,k*4,none⟩=some (.string ⟨a.text.toArray⟩):=hcc 0 (by decide)
        have y1:wr.cell? ⟨gr,k*4+1,none⟩=some (.int .i64 a.at_):=hcc 1 (by decide)
        have y2:wr.cell? ⟨gr,k*4+2,none⟩=some (.int .i64 a.num):=hcc 2 (by decide)
        have y3:wr.cell? ⟨gr,k*4+3,none⟩=some (.int .i64 a.n):=hcc 3 (by decide)
        obtain⟨W8,hW8⟩:∃W,W=wr.alloc (.cells #[.string ⟨a.text.toArray⟩,.int .i64 a.at_,.int .i64 a.num,.int .i64 a.n] 193):=⟨_,rfl⟩
        have k8:Below wr.heap.size wr W8:=by rw[hW8];exact(Below.refl _ wr).alloc (Nat.le_refl _) _
        have b8:an W8 wr.heap.size #[.string ⟨a.text.toArray⟩,.int .i64 a.at_,.int .i64 a.num,.int .i64 a.n]:=by rw[hW8];exact an.new wr _ _
        have b7:=(HB7.out.kept HK3.out (by show¬wj.heap.size=w.heap.size+1;omega)).below k8
        have HI8:=aa (HI.out.keep k8)
        have hz8:w.heap.size+1< wr.heap.size:=HI.out.fi.lt
        have hzw:=HK3.out.size
        have HSK:Hid (∀w',ae (ao (w.heap.size+1)) W8.drew w'→w'.cell? ⟨w.heap.size,0,none⟩=some (ak bH)∧w'.cell? ⟨wj.heap.size,1,none⟩=some (.int .i64 st.fn)∧w'.cell? ⟨wr.heap.size,0,none⟩=some (.string ⟨a.text.toArray⟩)∧w'.cell? ⟨wr.heap.size,1,none⟩=some (.int .i64 a.at_)∧w'.cell? ⟨wr.heap.size,2,none⟩=some (.int .i64 a.num)∧w'.cell? ⟨wr.heap.size,3,none⟩=some (.int .i64 a.n)):=fun w' kk=>by
         have y7:an w' wj.heap.size _:=(⟨b7.cell,b7.fz,b7.lt⟩:an W8.drew wj.heap.size _).kept kk (by show¬wj.heap.size=w.heap.size+1;omega)
         have y8:an w' wr.heap.size _:=(⟨b8.cell,b8.fz,b8.lt⟩:an W8.drew wr.heap.size _).kept kk (by show¬wr.heap.size=w.heap.size+1;omega)
         have y9:an w' w.heap.size _:=(⟨HI8.out.bx.cell,HI8.out.bx.fz,HI8.out.bx.lt⟩:an W8.drew w.heap.size _).kept kk (by show¬w.heap.size=w.heap.size+1;omega)
         exact⟨y9.cell 0,y7.cell 1,y8.cell 0,y8.cell 1,y8.cell 2,y8.cell 3⟩
        obtain⟨g0,g1,g2,g3,g4,g5⟩:=HSK.out W8.drew (ae.refl _ _)
        have HAT:=aa (Ai (w:=W8.drew) (f:=st.fn) (a:=a) (HHH.out.keep (HI8.out.kp.drew)) hfn hna)
        have HAD:Hid (∀w2,Below W8.drew.heap.size W8.drew w2→Calls Tryz.prog 151 #[.pointer (some ⟨w.heap.size+1,0,none⟩),.agg #[.int .u64 (bZ cs st.fn a).1,.int .u64 (bZ cs st.fn a).2]] w2 fun r w'=>r=.returned (.tuple #[])∧an w' (w.heap.size+1) (ab (addAt (tp (li cs st.fn (st.r.take k) z)) 0 (bZ cs st.fn a)))∧ae (ao (w.heap.size+1)) w2 w'):=fun w2 k2=>oo (h:=bZ cs st.fn a) ((HI8.out.fi.below ⟨rfl,rfl,rfl,Nat.le_refl _,fun _ _=>rfl⟩:an W8.drew _ _).below k2) (by show 1< 2;decide) rfl
        have HTR:Hid (li cs st.fn (st.r.take (k+1)) z=wS (li cs st.fn (st.r.take k) z) (bZ cs st.fn a)):=by
         show _=_
         unfold li
         rw[List.take_add_one,ha]
         exact da _ _ _ _
        have HK8:=aa k8
        have HW8:=aa hW8
        clear hcc hW8 k8 b7 b8 ha
        go_wp2_with fail
        rw[←HW8.out]
        go_region_held3 (fun w'=>w'.cell? ⟨w.heap.size,0,none⟩=some (ak bH)∧w'.cell? ⟨wj.heap.size,1,none⟩=some (.int .i64 st.fn)∧w'.cell? ⟨wr.heap.size,0,none⟩=some (.string ⟨a.text.toArray⟩)∧w'.cell? ⟨wr.heap.size,1,none⟩=some (.int .i64 a.at_)∧w'.cell? ⟨wr.heap.size,2,none⟩=some (.int .i64 a.num)∧w'.cell? ⟨wr.heap.size,3,none⟩=some (.int .i64 a.n)) (first|exact⟨e0,e1,e2,e3,e4,e5⟩|exact⟨g0,g1,g2,g3,g4,g5⟩|go_keep) (first|(go_at_call 150;refine HAT.out.mono ?_;rintro q w2 ⟨rfl,hb2⟩;have HB2:=aa hb2;obtain⟨e0,e1,e2,e3,e4,e5⟩:=HSK.out _ (ae.of_below hb2);clear hb2)|(go_at_call 151;refine(HAD.out w2 HB2.out).mono ?_;rintro q w3 ⟨rfl,hq⟩;have HQ:=aa hq;obtain⟨e0,e1,e2,e3,e4,e5⟩:=HSK.out _ ((ae.of_below (S:=ao (w.heap.size+1)) HB2.out).trans' hq.2 (fun i e=>Or.inl e));clear hq))
        all_goals
         have hb2':Below W8.heap.size W8 w2:=⟨HB2.out.os,HB2.out.tape,HB2.out.output,HB2.out.size,HB2.out.block⟩
         have HN3:Hid (ae (ao (w.heap.size+1)) W7 w3∧pB w w3 bH (li cs st.fn (st.r.take (k+1)) z)):=by
          refine⟨HK3.out.trans' ((ae.of_below (S:=ao (w.heap.size+1)) HK8.out).trans' ((ae.of_below (S:=ao (w.heap.size+1)) hb2').trans' HQ.out.2 (fun i e=>Or.inl e)) (fun i e=>Or.inl e)) (fun i e=>Or.inl e),?_⟩
          rw[HTR.out]
          exact(HI8.out.keep hb2').add HQ.out.2 HQ.out.1
         clear e0 e1 e2 e3 e4 e5 hb2'
         go_wp2_with fail
         go_roundw
         case rel=>exact⟨k+1,by go_num,(by omega:k+1≤st.r.length),HN3.out.1,HN3.out.2⟩
         case measure=>simp[intOf];omega
  ·have hkd:k< 5:=by omega
   have hkn:((k:Int)< 5):=by omega
   clear hk
   have hix:=fun W=>pA hkd W (gO cs) (jc hcl)
   have HHE:Hid (((gO cs).getD (2*k) 0,(gO cs).getD (2*k+1) 0)=ax cs (30+k)):=by
    show _=_
    rw[lO hcl (by omega),lO hcl (by omega)]
    unfold ax
    rw[show 60+2*k=2*(30+k)by omega,show 60+(2*k+1)=2*(30+k)+1 by omega]
   generalize(gO cs).getD (2*k) 0=v0 at *
   generalize(gO cs).getD (2*k+1) 0=v1 at *
   have hix2:∀W:World,(Instr.index 215 (.agg (aH (gO cs)).toArray) (.int .i64 k)).run Tryz.prog W=.ok (.agg #[.int .u64 (v0:Nat),.int .u64 (v1:Nat)]) W:=hix
   have kA:Below wr.heap.size wr (wr.alloc (.cells #[.int .u64 (v0:Nat),.int .u64 (v1:Nat)] 212)):=(Below.refl _ wr).alloc (Nat.le_refl _) _
   have HAD:Hid (Calls Tryz.prog 151 #[.pointer (some ⟨w.heap.size+1,0,none⟩),.agg #[.int .u64 (v0:Nat),.int .u64 (v1:Nat)]] (wr.alloc (.cells #[.int .u64 (v0:Nat),.int .u64 (v1:Nat)] 212)) fun r w'=>r=.returned (.tuple #[])∧an w' (w.heap.size+1) (ab (addAt (tp (gi cs k)) 0 (v0,v1)))∧ae (ao (w.heap.size+1)) (wr.alloc (.cells #[.int .u64 (v0:Nat),.int .u64 (v1:Nat)] 212)) w'):=oo (h:=(v0,v1)) (HI.out.fi.below kA) (by show 1< 2;decide) rfl
   have HKA:=aa kA
   have hwz:w.heap.size+1< wr.heap.size:=HI.out.fi.lt
   clear hix kA
   go_wp2_with fail
   refine HAD.out.mono ?_
   rintro q w3 ⟨rfl,hb3,hk3⟩
   have HN:Hid (pB w w3 bH (gi cs (k+1))):=by
    show pB _ _ _ _
    rw[rA,←HHE.out]
    exact(HI.out.keep HKA.out).add hk3 hb3
   clear hb3 hk3
   go_wp2_with fail
   go_roundw
   case rel=>exact⟨k+1,by go_num,(by omega:k+1≤5),HN⟩
   case measure=>simp[intOf];omega
end
section
set_option maxRecDepth 100000
set_option maxHeartbeats 4000000
open Go.RowKit Go.Shelf
namespace Rp
def madeN(x:Rp)(k:Nat):Nat:=((List.range k).filter (fun i=>(x.st i).p.kind==6)).length
def madeF(x:Rp):Nat→Nat→Option Nat
 |0=>fun _=>none
 |k+1=>if(x.st k).p.kind=6 then fun t=>if t=k then some (x.madeN k)else x.madeF k t else x.madeF k
end Rp
theorem ui{x:Rp}{k:Nat}(h:(x.st k).p.kind=6):x.madeN (k+1)=x.madeN k+1:=by
 unfold Rp.madeN
 rw[List.range_succ,List.filter_append,List.length_append]
 simp[h]
theorem vV{x:Rp}{k:Nat}(h:(x.st k).p.kind≠6):x.madeN (k+1)=x.madeN k:=by
 unfold Rp.madeN
 rw[List.range_succ,List.filter_append,List.length_append,List.filter_cons_of_neg (by simpa using h)]
 rfl
theorem vW(x:Rp)(k:Nat):x.madeN k≤k:=by
 unfold Rp.madeN
 have:=List.length_filter_le (fun i=>(x.st i).p.kind==6) (List.range k)
 simpa using this
theorem rU{x:Rp}:∀(k t:Nat),k≤t→x.madeF k t=none:=by
 intro k
 induction k with
 |zero=>intro t _;rfl
 |succ k ih=>
  intro t ht
  unfold Rp.madeF
  split
  ·show(if t=k then _ else _)=none
   rw[if_neg (by omega)];exact ih t (by omega)
  ·exact ih t (by omega)
theorem nk(w:World):(Instr.makeMap 210 none).run Tryz.prog w=.ok (.map (some w.heap.size)) (w.alloc (.map #[] 0)):=by kernel_rfl
theorem wV(a b:Value):(Tryz.zeroCells221.setIfInBounds 1 a).setIfInBounds 2 b=#[.int .u64 0,a,b]++ab (List.replicate 104 0):=by kernel_rfl
theorem vn(a b c:Value)(l l':List Nat)(h:l.length=l'.length):gm (#[a,b,c]++ab l) 3 (aH l')=#[a,b,c]++ab l':=by
 refine Array.ext_getElem? fun j=>?_
 by_cases hj:j< (#[a,b,c]++ab l).size
 ·rw[kx _ _ _ _ hj]
  rw[Array.size_append,ar]at hj
  have h3:(#[a,b,c]:Array Value).size=3:=rfl
  rw[h3]at hj
  rw[aV]
  by_cases h2:3≤j∧j< 3+l'.length
  ·rw[if_pos h2,Array.getElem?_append_right (by rw[h3];omega),h3]
   simp[ab]
  ·rw[if_neg h2,Array.getElem?_append_left (by rw[h3];omega),Array.getElem?_append_left (by rw[h3];omega)]
 ·rw[Array.getElem?_eq_none (by rw[io];omega),Array.getElem?_eq_none (by rw[Array.size_append,ar]at hj⊢;omega)]
theorem nE:∀args w,(callFunc 95 args).run Tryz.prog w=.ok (.enter 95 args) w:=enters_of Tryz.func95 (by kernel_rfl) rfl
theorem rZ{w:World}{b:Nat}(o:Obj)(_:Unit:=()):ae (ao b) w (Go.ChangeMaps.setBlock w.drew b o):=by
 refine⟨rfl,rfl,rfl,by simp[Go.ChangeMaps.setBlock],fun i hi hne=>?_⟩
 have:i≠b:=hne
 simp[Go.ChangeMaps.setBlock,Array.getElem?_setIfInBounds_ne (Ne.symm this)]
 rfl
theorem vd{w:World}{b t:Nat}{a1 a2 a3:Value}{l:List Nat}(h:w.heap[b]?=some (.cells (#[a1,a2,a3]++ab l) t (0,0))):w.there b 3 l.length:=fun j hj=>by
 have hb:=af h
 rw[hb.cell,hb.fz,Array.getElem?_append_right (by show 3≤3+j;omega)]
 refine⟨?_,rfl⟩
 rw[show 3+j-(#[a1,a2,a3]:Array Value).size=j by show 3+j-3=j;omega,aY hj]
 rfl
theorem oM{P:Program}{w:World}{b t:Nat}{a1 a2 a3:Value}{l l':List Nat}(h:w.heap[b]?=some (.cells (#[a1,a2,a3]++ab l) t (0,0)))(hl:l'.length=l.length):(storeCells ⟨b,3,none⟩ (aH l')).run P w=.ok () (w.setCells b 3 (aH l')):=by
 have ht:=vd h
 have:=run_storeCells_cells (P:=P) b 3 (aH l') 0 w (fun j hj=>by rw[aV]at hj;simpa using(ht j (by omega)).1) (fun j hj=>by rw[aV]at hj;simpa using(ht j (by omega)).2) (fun v hv=>by
  simp only[aH,List.mem_map]at hv
  obtain⟨a,_,rfl⟩:=hv
  rfl)
 simpa using this
theorem yh{w:World}{b t:Nat}{a1 a2 a3:Value}{l:List Nat}(h:w.heap[b]?=some (.cells (#[a1,a2,a3]++ab l) t (0,0))):w.cell? ⟨b,0,none⟩=some a1:=by
 rw[(af h).cell,Array.getElem?_append_left (by show 0< 3;decide)]
 rfl
theorem Ab(a1 a2 a3 a:Value)(l:List Nat):(#[a1,a2,a3]++ab l).setIfInBounds 0 a=#[a,a2,a3]++ab l:=by
 rw[Array.setIfInBounds_append_left (by show 0< 3;decide)]
 rfl
structure Bz(w wr:World)(bR k:Nat)(x:Rp):Prop where
 kp:Below w.heap.size w wr
 b1:an wr w.heap.size #[ak bR]
 bm:fB wr (w.heap.size+1) (x.madeN k) (x.madeF k)
 bh:wr.heap[w.heap.size+1+1]?=some (.cells (#[.int .u64 0,ak bR,.map (some (w.heap.size+1))]++ab (List.replicate 104 0)) 221 (0,0))
 b3:an wr (w.heap.size+1+1+1) #[ak (w.heap.size+1+1)]
 le:k≤x.stmts.length
theorem Cq{w:World}{bR sh k0:Nat}{cs:List Nat}{x:Rp}(h:aP w bR x)(sp:ci x)(ok:∀s,s< 64→x.spots.testBit s=true→sY x (x.madeF x.stmts.length) s)(hn:x.stmts.length≤60)(h0:0< x.stmts.length)
  (hx:∀k,k< x.starts.length→x.starts.getD k 0< x.stmts.length∧x.starts.getD k 0< 64) (hso:∀s,s< x.stmts.length→gM (x.st s)) (hm:x.starts.length< 64)
  (hT:Tz w) (hg:0< w.heap.size) (hS:aM (x.roundG (x.madeF x.stmts.length)) k0 (List.replicate 104 0)=some cs) (hcs:iI cs) (hR:bK (yZ cs) 70 (x.firstH cs).1 (x.firstH cs).1=some sh) (hf:(x.firstH cs).1< bI) (h6:sh< 64):
  Calls Tryz.prog 65 #[ak bR] w fun r w'=>∃bH,r=.returned (ak bH)∧gN w' bH bR sh cs∧Below w.heap.size w w':=by
 obtain⟨bv,sv,tv,rv,lv,h1,-⟩:=h.ex
 obtain⟨g,c,b,sr,sb,c3,-⟩:=h.stm h0
 have hRl:bR< w.heap.size:=h1.lt
 have hmk:=nk
 obtain⟨W0,hW0⟩:∃W,W=((((w.alloc (.cells #[ak bR] 163)).alloc (.map #[] 0)).alloc (.cells ((Tryz.zeroCells221.setIfInBounds 1 (ak bR)).setIfInBounds 2 (.map (some (w.heap.size+1)))) 221)).alloc (.cells #[.pointer (some ⟨w.heap.size+1+1,0,none⟩)] 165)):=⟨_,rfl⟩
 have HI0:Hid (Bz w W0 bR 0 x):=by
  rw[hW0]
  refine⟨((((Below.refl _ w).alloc (Nat.le_refl _) _).alloc (by simp) _).alloc (by simp;omega) _).alloc (by simp;omega) _,(((an.new w _ _).alloc _).alloc _).alloc _,?_,?_,an.new' _ _ _ _ (by simp),Nat.zero_le _⟩
  ·have:=fB.new (w.alloc (.cells #[ak bR] 163))
   rw[World.size_alloc]at this
   exact(this.keep ((Below.refl _ _).alloc (Nat.le_refl _) _)).keep ((Below.refl _ _).alloc (Nat.le_refl _) _)
  ·rw[wV]
   have:=heap_alloc_new ((w.alloc (.cells #[ak bR] 163)).alloc (.map #[] 0)) (.cells (#[.int .u64 0,ak bR,.map (some (w.heap.size+1))]++ab (List.replicate 104 0)) 221)
   rw[World.size_alloc,World.size_alloc]at this
   exact(Below.heap_alloc _ _ _ (by simp)).trans this
 have q1:W0.cell? ⟨w.heap.size,0,none⟩=some (ak bR):=HI0.out.b1.cell 0
 have q3:W0.cell? ⟨bR,3,none⟩=some (.slice (some ⟨g,0,none⟩) x.stmts.length c):=(HI0.out.kp.cell (p:=⟨bR,3,none⟩) hRl).trans c3
 rw[hW0]at q3
 have HW0:=aa hW0
 have HH:=aa h
 have HSP:=aa sp
 have HOK:=aa ok
 have HX:=aa hx
 have HSO:=aa hso
 have HT:=aa hT
 have HS:=aa hS
 have HCS:=aa hcs
 have HR:=aa hR
 clear h sp ok hx hso hT hS hcs hR h1 hW0
 go_enter Tryz.func65,Tryz.ntmps65
 go_wp2_with fail
 rw[←HW0.out]
 clear q1 q3 hmk
 go_loopw [15] (fun i wr=>∃k:Nat,i=.int .i64 k∧Hid (Bz w wr bR k x)) (fun i _=>x.stmts.length-(intOf i).toNat)
 case atStart=>exact⟨0,rfl,HI0⟩
 case round=>
  obtain⟨k,rfl,HI⟩:=hrel
  have hkl:=HI.out.le
  by_cases hk:k=x.stmts.length
  ·have hkn:¬((k:Int)< (x.stmts.length:Int)):=by omega
   have HP:Hid (Bz w wr bR x.stmts.length x):=by rw[←hk];exact HI
   clear hk hkl HI
   have u3:wr.cell? ⟨w.heap.size+1+1+1,0,none⟩=some (ak (w.heap.size+1+1)):=HP.out.b3.cell 0
   have HKP:Hid (∀W,Below wr.heap.size wr W→Calls Tryz.prog 94 #[.agg Tryz.zeroCells219,.func (.func 95) #[] #[.pointer (some ⟨w.heap.size,0,none⟩),.pointer (some ⟨w.heap.size+1+1+1,0,none⟩)]] W fun r w'=>r=.returned (.agg (aH cs).toArray)∧Below W.heap.size W w'):=fun W kk=>by
    rw[px]
    refine pO (List.replicate 104 0) cs k0 (x.roundG (x.madeF x.stmts.length)) iI 95 #[] _ W ⟨by simp,fun a ha=>by rw[List.eq_of_mem_replicate ha];decide⟩ ⟨⟨by simp,fun a ha=>by rw[List.eq_of_mem_replicate ha];decide⟩,fun j=>?_⟩ (fun y hy hO=>?_) HS.out (fun y W' hy hO k'=>?_) nE
    ·have:(List.replicate 104 0).getD (2*j) 0=0:=by
      rw[List.getD_eq_getElem?_getD,List.getElem?_replicate]
      split<;>rfl
     rw[this]
     decide
    ·have hO2:iI (x.roundG (x.madeF x.stmts.length) y):=by
      have:∀(ts:List (El x.spots)) (l:List Nat),iI l→iI ((ts.map (·.1)).foldl (x.doG (x.madeF x.stmts.length)) l):=by
       intro ts
       induction ts with
       |nil=>intro l h;exact h
       |cons t ts ih=>intro l h;exact ih _ (sB (HOK.out t.1 t.2.1 t.2.2) h)
      have h2:=this (jZ x.spots) y hO
      rw[cF]at h2
      exact h2
     exact⟨hO2.wd,hO2⟩
    ·have kW:Below wr.heap.size wr W':=kk.trans (k'.mono kk.size)
     have kw:Below w.heap.size w W':=HP.out.kp.trans (kW.mono HP.out.kp.size)
     have hth:W'.heap[w.heap.size+1+1]?=some (.cells (#[.int .u64 0,ak bR,.map (some (w.heap.size+1))]++ab (List.replicate 104 0)) 221 (0,0)):=(kW.block _ (Array.getElem?_eq_some_iff.1 HP.out.bh).1).trans HP.out.bh
     refine BV (HH.out.keep kw) HSP.out hO ((HP.out.b1.below kW).cell 0) ((HP.out.b3.below kW).cell 0) ?_ ?_ (HP.out.bm.keep kW) HOK.out (HT.out.below kw) (Nat.lt_of_lt_of_le hg kw.size)
     ·rw[(af hth).cell,Array.getElem?_append_left (by show 1< 3;decide)];rfl
     ·rw[(af hth).cell,Array.getElem?_append_left (by show 2< 3;decide)];rfl
   have hB3:w.heap.size+1+1+1< wr.heap.size:=HP.out.b3.lt
   have HCL:Hid (cs.length=(List.replicate 104 0).length):=by show _=_;rw[List.length_replicate];exact HCS.out.wd.len
   have i1:(Tryz.prog.info? 219).map (·.size)=some (aH cs).length:=by rw[aV,HCS.out.wd.len];exact bi.hi
   have i2:(aH cs).length=104:=by rw[aV,HCS.out.wd.len]
   have i3:∀v∈aH cs,v.oneCell'=true:=fun v hv=>by
    simp only[aH,List.mem_map]at hv
    obtain⟨a,_,rfl⟩:=hv
    rfl
   go_wp2_with fail
   go_region_held3 (fun w'=>w'.cell? ⟨w.heap.size+1+1+1,0,none⟩=some (ak (w.heap.size+1+1))) (first|exact e4|exact e3|exact u3|go_keep) (first|(go_at_call 94;refine(HKP.out _ (Below.refl _ wr).drew).mono ?_;rintro q w2 ⟨rfl,hb2⟩;have hb2':Below wr.heap.size wr w2:=⟨hb2.os,hb2.tape,hb2.output,hb2.size,hb2.block⟩;have HB2:=aa hb2';have e3:w2.cell? ⟨w.heap.size+1+1+1,0,none⟩=some (ak (w.heap.size+1+1)):=(HP.out.b3.below hb2').cell 0;have hth2:w2.heap[w.heap.size+1+1]?=some (.cells (#[.int .u64 0,ak bR,.map (some (w.heap.size+1))]++ab (List.replicate 104 0)) 221 (0,0)):=(hb2'.block _ (Array.getElem?_eq_some_iff.1 HP.out.bh).1).trans HP.out.bh;have HTH2:=aa hth2;have tt:=oM (P:=Tryz.prog) (l':=cs) hth2 HCL.out;have e4:(w2.setCells (w.heap.size+1+1) 3 (aH cs)).cell? ⟨w.heap.size+1+1+1,0,none⟩=some (ak (w.heap.size+1+1)):=((HP.out.b3.below hb2').kept (dz (aH cs) 3 _ w2 hth2).2 (by show¬w.heap.size+1+1+1=w.heap.size+1+1;omega)).cell 0;clear hb2 hb2' hth2))
   all_goals
    have hst:=dz (aH cs) 3 _ w2 HTH2.out
    rw[vn _ _ _ _ _ HCL.out.symm]at hst
    obtain⟨W5,hW5⟩:∃W,W=w2.setCells (w.heap.size+1+1) 3 (aH cs):=⟨_,rfl⟩
    rw[←hW5]at hst e4⊢
    have k5:Below w.heap.size w W5:=aE (HP.out.kp.trans (HB2.out.mono HP.out.kp.size)) hst.2 (by omega)
    have h5:gN W5 (w.heap.size+1+1) bR 0 cs:=⟨⟨_,af hst.1⟩,HCS.out.wd.len⟩
    have hb3:an W5 (w.heap.size+1+1+1) #[ak (w.heap.size+1+1)]:=(HP.out.b3.below HB2.out).kept hst.2 (by show¬w.heap.size+1+1+1=w.heap.size+1+1;omega)
    have HST:=aa hst.1
    have HK5:=aa k5
    have HB3:=aa hb3
    have HSH:=aa (yn (w:=W5.drew) (HH.out.keep k5.drew) (h5.keep (w':=W5.drew) ⟨rfl,rfl,rfl,Nat.le_refl _,fun _ _=>rfl⟩) HX.out HSO.out hm (HT.out.below k5.drew) (Nat.lt_of_lt_of_le hg k5.size) HR.out hf h6)
    clear hst hW5 k5 h5 hb3 tt e3 HTH2 HB2
    go_wp2_with fail
    go_region_held3 (fun w'=>w'.cell? ⟨w.heap.size+1+1+1,0,none⟩=some (ak (w.heap.size+1+1))) (first|exact e7|exact e6|exact e4|go_keep) (first|(go_at_call 98;refine HSH.out.mono ?_;rintro q w6 ⟨rfl,hb6⟩;have hb6':Below W5.heap.size W5 w6:=⟨hb6.os,hb6.tape,hb6.output,hb6.size,hb6.block⟩;have HB6:=aa hb6';have e6:w6.cell? ⟨w.heap.size+1+1+1,0,none⟩=some (ak (w.heap.size+1+1)):=(HB3.out.below hb6').cell 0;have ht6:w6.heap[w.heap.size+1+1]?=some (.cells (#[.int .u64 0,ak bR,.map (some (w.heap.size+1))]++ab cs) 221 (0,0)):=(hb6'.block _ (Array.getElem?_eq_some_iff.1 HST.out).1).trans HST.out;have HT6:=aa ht6;have f0:w6.frozen? ⟨w.heap.size+1+1,0,none⟩=false:=(af ht6).fz 0;have d0:w6.cell? ⟨w.heap.size+1+1,0,none⟩=some (.int .u64 0):=yh ht6;have e7:(w6.setCell ⟨w.heap.size+1+1,0,none⟩ (.int .u64 (sh:Nat))).cell? ⟨w.heap.size+1+1+1,0,none⟩=some (ak (w.heap.size+1+1)):=((HB3.out.below hb6').setO _ _ _ (by omega)).cell 0;have l6:w.heap.size+1+1< w6.heap.size:=(af ht6).lt;clear hb6 hb6' ht6))
    all_goals
     have HF:Hid (gN (w6.setCell ⟨w.heap.size+1+1,0,none⟩ (.int .u64 (sh:Nat))) (w.heap.size+1+1) bR sh cs∧Below w.heap.size w (w6.setCell ⟨w.heap.size+1+1,0,none⟩ (.int .u64 (sh:Nat)))):=by
      refine⟨⟨⟨.map (some (w.heap.size+1)),?_⟩,HCS.out.wd.len⟩,(HK5.out.trans (HB6.out.mono HK5.out.size)).setCell (p:=⟨w.heap.size+1+1,0,none⟩) (by show w.heap.size≤w.heap.size+1+1;omega) _⟩
      have:=af (eD (j:=0) (u:=.int .u64 (sh:Nat)) HT6.out)
      rw[Ab]at this
      exact this
     clear e6 f0 d0
     go_wp2_with fail
     go_ret
     exact⟨_,rfl,HF.out.1,HF.out.2⟩
  ·have hkd:k< x.stmts.length:=by omega
   have hkn:((k:Int)< (x.stmts.length:Int)):=by omega
   clear hk
   obtain⟨g',c',bs,sr',sb',y3,y4,y5,y6,y7,hbs,-,hbo,-,-⟩:=HH.out.stmO HI.out.kp hkd
   have e3:=(HI.out.kp.cell (p:=⟨bR,3,none⟩) hRl).trans c3
   rw[e3]at y3
   cases y3
   have y2:wr.cell? ⟨bs,2,none⟩=some (.int .i64 (x.st k).p.kind):=hbs.cell 2
   have hbl:bs< wr.heap.size:=hbs.lt
   have hGl:g< wr.heap.size:=ah y4
   have hBl:w.heap.size+1+1+1< wr.heap.size:=HI.out.b3.lt
   obtain⟨W7,hW7⟩:∃W,W=wr.alloc (.cells #[ak bs,.int .i64 (x.st k).fn,.int .i64 (x.st k).nx,.int .i64 (x.st k).ins] 197):=⟨_,rfl⟩
   have k7:Below wr.heap.size wr W7:=by rw[hW7];exact(Below.refl _ wr).alloc (Nat.le_refl _) _
   have HK7:=aa k7
   have HW7:=aa hW7
   have kk7:=HI.out.kp.trans (k7.mono HI.out.kp.size)
   clear hbs e3
   by_cases h6':(x.st k).p.kind=6
   ·have h6b:(((x.st k).p.kind:Int)==6)=true:=by rw[beq_iff_eq];omega
    have u3:W7.cell? ⟨w.heap.size+1+1+1,0,none⟩=some (ak (w.heap.size+1+1)):=(HI.out.b3.below k7).cell 0
    have hth:W7.heap[w.heap.size+1+1]?=some (.cells (#[.int .u64 0,ak bR,.map (some (w.heap.size+1))]++ab (List.replicate 104 0)) 221 (0,0)):=(k7.block _ (Array.getElem?_eq_some_iff.1 HI.out.bh).1).trans HI.out.bh
    have u2:W7.cell? ⟨w.heap.size+1+1,2,none⟩=some (.map (some (w.heap.size+1))):=by
     rw[(af hth).cell,Array.getElem?_append_left (by show 2< 3;decide)]
     rfl
    have hM:fB W7.drew (w.heap.size+1) (x.madeN k) (x.madeF k):=HI.out.bm.keep k7.drew
    have hln:=hM.len
    have hnk:=vW x k
    obtain⟨w9,hup,hM9,htu⟩:=hM.add k (by omega) (by omega) (rU k k (Nat.le_refl _)) (x.madeN k) (by omega)
    have HN:Hid (Bz w w9 bR (k+1) x):=by
     obtain⟨es,ck,es',ck',hes,rfl⟩:=htu
     have kt:ae (ao (w.heap.size+1)) W7 (Go.ChangeMaps.setBlock W7.drew (w.heap.size+1) (.map es' ck')):=rZ _
     refine⟨aE kk7 kt (by omega),(HI.out.b1.below k7).kept kt (by show¬w.heap.size=w.heap.size+1;omega),?_,(kt.block _ (Array.getElem?_eq_some_iff.1 hth).1 (by show¬w.heap.size+1+1=w.heap.size+1;omega)).trans hth,(HI.out.b3.below k7).kept kt (by show¬w.heap.size+1+1+1=w.heap.size+1;omega),by omega⟩
     rw[ui h6',show x.madeF (k+1)=(fun t=>if t=k then some (x.madeN k)else x.madeF k t)by show(if _ then _ else _)=_;rw[if_pos h6']]
     exact hM9
    have hB7:w.heap.size+1+1+1< W7.heap.size:=Nat.lt_of_lt_of_le hBl k7.size
    clear h6' hW7 k7 kk7 hM hM9 htu hth
    go_wp2_with fail
    rw[←HW7.out]
    go_region
    go_wp2_with fail
    go_roundw
    case rel=>exact⟨k+1,by go_num,HN⟩
    case measure=>simp[intOf];omega
   ·have h6b:(((x.st k).p.kind:Int)==6)=false:=by rw[beq_eq_false_iff_ne];omega
    have HN:Hid (Bz w W7 bR (k+1) x):=by
     refine⟨kk7,HI.out.b1.below k7,?_,(k7.block _ (Array.getElem?_eq_some_iff.1 HI.out.bh).1).trans HI.out.bh,HI.out.b3.below k7,by omega⟩
     rw[vV h6',show x.madeF (k+1)=x.madeF k by show(if _ then _ else _)=_;rw[if_neg h6']]
     exact HI.out.bm.keep k7
    clear h6' hW7 k7 kk7
    go_wp2_with fail
    rw[←HW7.out]
    go_roundw
    case rel=>exact⟨k+1,by go_num,HN⟩
    case measure=>simp[intOf];omega
end
section
set_option maxRecDepth 100000
set_option maxHeartbeats 4000000
open Go.RowKit Go.Shelf
abbrev gc:Array Value:=#[.int .u64 0,.int .u64 0,.int .u64 0,.int .u64 0,.int .u64 0,.int .u64 0,.int .u64 0,.int .u64 0,.int .u64 0,.int .u64 0,.int .u64 0,.int .u64 0,.int .u64 0,.int .u64 0,.int .u64 0,.int .u64 0,.int .u64 0,.int .u64 0,.int .u64 0,.int .u64 0,.int .u64 0,.int .u64 0,.int .u64 0,.int .u64 0,.int .u64 0,.int .u64 0,.int .u64 0,.int .u64 0,.int .u64 0,.int .u64 0,.int .u64 0,.int .u64 0,.int .u64 0,.int .u64 0,.int .u64 0,.int .u64 0,.int .u64 0,.int .u64 0,.int .u64 0,.int .u64 0,.int .u64 0,.int .u64 0,.int .u64 0,.int .u64 0,.int .u64 0,.int .u64 0,.int .u64 0,.int .u64 0,.int .u64 0,.int .u64 0,.int .u64 0,.int .u64 0,.int .u64 0]
theorem kq:gc.size=53:=rfl
theorem AA:gc=ab (List.replicate 53 0):=rfl
theorem bO:mT Tryz.prog 171 53:=⟨⟨_,Tryz.underlying171,rfl⟩,by kernel_rfl⟩
theorem wY:pH Tryz.prog 6 171=true:=by kernel_rfl
theorem xa:Tryz.prog.keyTypeAt 6 171=true:=by kernel_rfl
theorem qY:Tryz.prog.cellsOf 171=53:=by kernel_rfl
theorem xc(A:Array Value)(h:A.size=53):(Value.agg A).formed Tryz.prog 171=true:=by
 unfold Value.formed
 simp only[Tryz.underlying171,qY,h]
 rfl
theorem sL{xs ys:List Nat}(hx:Wd 53 xs)(hy:Wd 53 ys)(w:World):(binOp .neq 171 (.agg (ab xs)) (.agg (ab ys))).run Tryz.prog w=.ok (.bool (!decide (xs=ys))) w:=by
 rw[run_neq_struct,mE wY xa (by decide) qY xc hx hy]
 rfl
theorem vm(v R:List Nat)(k0:Nat)(f:List Nat→List Nat)(G:List Nat→Prop)(k:FuncId)(bs caps:Array Value)(w:World)(hv:Wd 53 v)(hG:G v)(hf:∀y,Wd 53 y→G y→Wd 53 (f y)∧G (f y))(hR:aM f k0 v=some R)
  (hk:∀(y:List Nat) (W:World),Wd 53 y→G y→Below w.heap.size w W→Calls Tryz.prog k (bs++#[.agg (ab y)]++caps) W fun r W'=>r=.returned (.agg (ab (f y)))∧Below W.heap.size W W')
  (he:∀args w,(callFunc k args).run Tryz.prog w=.ok (.enter k args) w):
  Calls Tryz.prog 158 #[.agg (ab v),.func (.func k) bs caps] w fun r w'=>r=.returned (.agg (ab R))∧Below w.heap.size w w':=by
 have HK:=aa hk
 have HR:=aa hR
 have HF:=aa hf
 have HG:=aa hG
 have HV:=aa hv
 have hlv:Hid (v.length=53):=hv.len
 have hlf:Hid ((f v).length=53):=(hf v hv hG).1.len
 have k0b:Below w.heap.size w ((w.alloc (.cells (ab v) 171)).alloc (.cells gc 171)):=((Below.refl _ w).alloc (Nat.le_refl _) _).alloc (by simp) _
 have H1:=aa (hk v _ hv hG k0b)
 have hb2:an ((w.alloc (.cells (ab v) 171)).alloc (.cells gc 171)) w.heap.size (ab v):=(an.new w _ _).alloc _
 have HT2:Hid (((w.alloc (.cells (ab v) 171)).alloc (.cells gc 171)).heap[w.heap.size]?=some (.cells (ab v) 171 (0,0))∧((w.alloc (.cells (ab v) 171)).alloc (.cells gc 171)).heap[w.heap.size+1]?=some (.cells gc 171 (0,0))):=⟨(Below.heap_alloc _ _ _ (by simp)).trans (heap_alloc_new w _),by have:=heap_alloc_new (w.alloc (.cells (ab v) 171)) (.cells gc 171);rw[World.size_alloc]at this;exact this⟩
 have HK0:=aa k0b
 clear hk hR hf hG hv k0b
 go_enter Tryz.func158,Tryz.ntmps158
 go_wp2_with (first|(refine aT rfl bO _ rfl rfl (by assumption) (by assumption) ?_))
 refine H1.out.mono ?_
 rintro r w1 ⟨rfl,hb1⟩
 have HB1:=aa hb1
 have HT3:Hid (w1.heap[w.heap.size]?=some (.cells (ab v) 171 (0,0))∧w1.heap[w.heap.size+1]?=some (.cells gc 171 (0,0))∧Below w.heap.size w w1):=⟨(hb1.block _ (by simp;omega)).trans HT2.out.1,(hb1.block _ (by simp)).trans HT2.out.2,HK0.out.trans (hb1.mono HK0.out.size)⟩
 clear hb1 hb2 HT2 HK0 HB1
 go_wp2_with (first|(refine bM rfl bO _ _ rfl rfl rfl hlf (heap_alloc_new w1 _) kq ?_))
 show∀w':World,_
 intro w2 hw2 hk2
 have HI:Hid (w2.heap[w.heap.size]?=some (.cells (ab v) 171 (0,0))∧(∃A,w2.heap[w.heap.size+1]?=some (.cells A 171 (0,0))∧A.size=53)∧w2.heap[w1.heap.size]?=some (.cells (ab (f v)) 171 (0,0))∧w.heap.size+1< w1.heap.size∧Below w.heap.size w w2):=by
  have hz:=(Array.getElem?_eq_some_iff.1 HT3.out.2.1).1
  have hb:∀i,i< w1.heap.size→w2.heap[i]?=w1.heap[i]?:=fun i hi=>(hk2.block i (by simp;omega) (by show¬i=w1.heap.size;omega)).trans (Below.heap_alloc _ _ _ hi)
  refine⟨(hb _ (by omega)).trans HT3.out.1,⟨_,(hb _ hz).trans HT3.out.2.1,kq⟩,hw2,hz,?_⟩
  exact HT3.out.2.2.trans ⟨hk2.os,hk2.tape,hk2.output,Nat.le_trans (by simp) hk2.size,fun i hi=>hb i (by omega)⟩
 clear hw2 hk2 HT3 H1
 go_wp2_with fail
 go_loopg [5] k0 (fun g a wr=>∃(y:List Nat) (p:Nat),a=.pointer (some ⟨p,0,none⟩)∧Hid (aM f g y=some R)∧Hid (Wd 53 y∧G y)∧Hid (wr.heap[w.heap.size]?=some (.cells (ab y) 171 (0,0))∧(∃A,wr.heap[w.heap.size+1]?=some (.cells A 171 (0,0))∧A.size=53)∧wr.heap[p]?=some (.cells (ab (f y)) 171 (0,0))∧w.heap.size+1< p∧Below w.heap.size w wr))
 case atStart=>exact⟨v,w1.heap.size,rfl,HR,⟨HV.out,HG.out⟩,HI⟩
 case round=>
  obtain⟨y,p,rfl,HS,HW,HM⟩:=hrel
  have hly:Hid (y.length=53):=HW.out.1.len
  have hwf:=HF.out y HW.out.1 HW.out.2
  have hlfy:Hid ((f y).length=53):=hwf.1.len
  have hb2:an wr w.heap.size (ab y):=af HM.out.1
  have hbp:an wr p (ab (f y)):=af HM.out.2.2.1
  have hq:=sL hwf.1 HW.out.1
  have HWF:=aa hwf
  clear hwf hlv hlf
  by_cases e:f y=y
  ·have hne:(!decide (f y=y))=false:=by simp[e]
   have HX:Hid (y=R):=by
    have:=HS.out
    show y=R
    cases gk<;>simpa[aM,e]using this
   have hq2:∀W:World,(binOp .neq 171 (.agg (ab (f y))) (.agg (ab y))).run Tryz.prog W=.ok (.bool false) W:=fun W=>by rw[hq W,hne]
   obtain⟨A,hA,hAn⟩:=HM.out.2.1
   clear e hq hne
   go_wp2_with (first|(refine aT rfl bO _ rfl rfl hbp hlfy ?_)|(refine aT rfl bO _ rfl rfl hb2 hly ?_)|(refine bM rfl bO _ _ rfl rfl rfl hly hA hAn ?_))
   show∀w':World,_
   intro w3 hw3 hk3
   have HF3:Hid (Below w.heap.size w w3):=HM.out.2.2.2.2.trans (by
    have:=HM.out.2.2.2.2.size
    exact⟨hk3.os,hk3.tape,hk3.output,hk3.size,fun i hi=>hk3.block i (by omega) (by show¬i=w.heap.size+1;omega)⟩)
   have hsz:(Tryz.prog.info? 171).map (·.size)=some (ab y).size:=by rw[ar,hly.out];exact bO.hi
   clear hk3 hb2 hbp hA
   go_wp2_with fail
   refine bodyPost_ret (results_cell_row rfl _ _ (w.heap.size+1) 171 (ab y) (0,0) _ rfl hw3 Tryz.underlying171 rfl hsz) rfl ⟨by rw[←HX.out],HF3.out⟩
  ·have hne:(!decide (f y=y))=true:=by simp[e]
   obtain⟨g',rfl,HS2⟩:∃g',gk=g'+1∧Hid (aM f g' (f y)=some R):=by
    have:=HS.out
    cases gk with
    |zero=>simp[aM,e]at this
    |succ g'=>exact⟨g',rfl,by show aM f g' (f y)=some R;simpa[aM,e]using this⟩
   have hq2:∀W:World,(binOp .neq 171 (.agg (ab (f y))) (.agg (ab y))).run Tryz.prog W=.ok (.bool true) W:=fun W=>by rw[hq W,hne]
   have ht2:=HM.out.1
   have hy2:(ab y).size=53:=by rw[ar,hly.out]
   clear e hq hne
   go_wp2_with (first|(refine aT rfl bO _ rfl rfl hbp hlfy ?_)|(refine aT rfl bO _ rfl rfl hb2 hly ?_)|(refine bM rfl bO _ _ rfl rfl rfl hlfy ht2 hy2 ?_))
   show∀w':World,_
   intro w3 hw3 hk3
   have hbp3:an w3 p (ab (f y)):=hbp.kept hk3 (by have:=HM.out.2.2.2.1;show¬p=w.heap.size;omega)
   have HM3:Hid (w3.heap[w.heap.size]?=some (.cells (ab (f y)) 171 (0,0))∧(∃A,w3.heap[w.heap.size+1]?=some (.cells A 171 (0,0))∧A.size=53)∧w.heap.size+1< w3.heap.size∧Below w.heap.size w w3):=by
    obtain⟨A,hA,hAn⟩:=HM.out.2.1
    have hz:=(Array.getElem?_eq_some_iff.1 hA).1
    refine⟨hw3,⟨A,(hk3.block _ hz (by show¬w.heap.size+1=w.heap.size;omega)).trans hA,hAn⟩,Nat.lt_of_lt_of_le hz hk3.size,HM.out.2.2.2.2.trans ⟨hk3.os,hk3.tape,hk3.output,hk3.size,fun i hi=>hk3.block i (by omega) (by show¬i=w.heap.size;omega)⟩⟩
   clear hw3 hk3 hb2 hbp ht2 hq2 HM
   go_wp2_with (first|(refine aT rfl bO _ rfl rfl hbp3 hlfy ?_)|(refine bM rfl bO _ _ rfl rfl rfl hlfy (heap_alloc_new w3 _) kq ?_))
   show∀w':World,_
   intro w4 hw4 hk4
   have hlt4:w3.heap.size< w4.heap.size:=(Array.getElem?_eq_some_iff.1 hw4).1
   have HM4:Hid (w4.heap[w.heap.size]?=some (.cells (ab (f y)) 171 (0,0))∧(∃A,w4.heap[w.heap.size+1]?=some (.cells A 171 (0,0))∧A.size=53)∧w4.heap[w3.heap.size]?=some (.cells (ab (f y)) 171 (0,0))∧w.heap.size+1< w3.heap.size∧Below w.heap.size w w4):=by
    obtain⟨q1,⟨A,q2,q3⟩,q4,q5⟩:=HM3.out
    have hb:∀i,i< w3.heap.size→w4.heap[i]?=w3.heap[i]?:=fun i hi=>(hk4.block i (by simp;omega) (by show¬i=w3.heap.size;omega)).trans (Below.heap_alloc _ _ _ hi)
    exact⟨(hb _ (by omega)).trans q1,⟨A,(hb _ q4).trans q2,q3⟩,hw4,q4,q5.trans ⟨hk4.os,hk4.tape,hk4.output,by omega,fun i hi=>hb i (by omega)⟩⟩
   have hb4:an w4 w.heap.size (ab (f y)):=af HM4.out.1
   have HC:=aa (HK.out (f y) w4 HWF.out.1 HWF.out.2 HM4.out.2.2.2.2)
   have hlff:Hid ((f (f y)).length=53):=(HF.out _ HWF.out.1 HWF.out.2).1.len
   clear hw4 hk4 hbp3 HM3
   go_wp2_with (first|(refine aT rfl bO _ rfl rfl hb4 hlfy ?_))
   refine HC.out.mono ?_
   rintro r w5 ⟨rfl,hb5⟩
   have HM5:Hid (w5.heap[w.heap.size]?=some (.cells (ab (f y)) 171 (0,0))∧(∃A,w5.heap[w.heap.size+1]?=some (.cells A 171 (0,0))∧A.size=53)∧w5.heap[w3.heap.size]?=some (.cells (ab (f y)) 171 (0,0))∧w.heap.size+1< w3.heap.size∧Below w.heap.size w w5):=by
    obtain⟨q1,⟨A,q2,q3⟩,q4,q5,q6⟩:=HM4.out
    have hb:∀{i:Nat} {o:Obj},w4.heap[i]?=some o→w5.heap[i]?=some o:=fun h=>(hb5.block _ (Array.getElem?_eq_some_iff.1 h).1).trans h
    exact⟨hb q1,⟨A,hb q2,q3⟩,hb q4,q5,q6.trans (hb5.mono q6.size)⟩
   have ht5:=HM5.out.2.2.1
   have hy5:(ab (f y)).size=53:=by rw[ar,hlfy.out]
   clear hb5 hb4 HM4 HC
   go_wp2_with (first|(refine bM rfl bO _ _ rfl rfl rfl hlff ht5 hy5 ?_))
   show∀w':World,_
   intro w6 hw6 hk6
   have HM6:Hid (w6.heap[w.heap.size]?=some (.cells (ab (f y)) 171 (0,0))∧(∃A,w6.heap[w.heap.size+1]?=some (.cells A 171 (0,0))∧A.size=53)∧w6.heap[w3.heap.size]?=some (.cells (ab (f (f y))) 171 (0,0))∧w.heap.size+1< w3.heap.size∧Below w.heap.size w w6):=by
    obtain⟨q1,⟨A,q2,q3⟩,q4,q5,q6⟩:=HM5.out
    have hb:∀{i:Nat} {o:Obj},i≠w3.heap.size→w5.heap[i]?=some o→w6.heap[i]?=some o:=fun hne h=>(hk6.block _ (Array.getElem?_eq_some_iff.1 h).1 hne).trans h
    refine⟨hb (by omega) q1,⟨A,hb (by omega) q2,q3⟩,hw6,q5,q6.trans ⟨hk6.os,hk6.tape,hk6.output,hk6.size,fun i hi=>hk6.block i (by have:=q6.size;omega) (by show¬i=w3.heap.size;omega)⟩⟩
   clear hw6 hk6 ht5 HM5
   go_wp2_with fail
   go_roundg g'
   case rel=>exact⟨f y,w3.heap.size,rfl,HS2,HWF,HM6⟩
   all_goals omega
theorem ce:mT Tryz.prog 175 53:=⟨⟨_,Tryz.underlying175,rfl⟩,by kernel_rfl⟩
theorem wW:pH Tryz.prog 6 175=true:=by kernel_rfl
theorem wZ:Tryz.prog.keyTypeAt 6 175=true:=by kernel_rfl
theorem qX:Tryz.prog.cellsOf 175=53:=by kernel_rfl
theorem xb(A:Array Value)(h:A.size=53):(Value.agg A).formed Tryz.prog 175=true:=by
 unfold Value.formed
 simp only[Tryz.underlying175,qX,h]
 rfl
theorem sK{xs ys:List Nat}(hx:Wd 53 xs)(hy:Wd 53 ys)(w:World):(binOp .neq 175 (.agg (ab xs)) (.agg (ab ys))).run Tryz.prog w=.ok (.bool (!decide (xs=ys))) w:=by
 rw[run_neq_struct,mE wW wZ (by decide) qX xb hx hy]
 rfl
theorem vl(v R:List Nat)(k0:Nat)(f:List Nat→List Nat)(G:List Nat→Prop)(k:FuncId)(bs caps:Array Value)(w:World)(hv:Wd 53 v)(hG:G v)(hf:∀y,Wd 53 y→G y→Wd 53 (f y)∧G (f y))(hR:aM f k0 v=some R)
  (hk:∀(y:List Nat) (W:World),Wd 53 y→G y→Below w.heap.size w W→Calls Tryz.prog k (bs++#[.agg (ab y)]++caps) W fun r W'=>r=.returned (.agg (ab (f y)))∧Below W.heap.size W W')
  (he:∀args w,(callFunc k args).run Tryz.prog w=.ok (.enter k args) w):
  Calls Tryz.prog 164 #[.agg (ab v),.func (.func k) bs caps] w fun r w'=>r=.returned (.agg (ab R))∧Below w.heap.size w w':=by
 have HK:=aa hk
 have HR:=aa hR
 have HF:=aa hf
 have HG:=aa hG
 have HV:=aa hv
 have hlv:Hid (v.length=53):=hv.len
 have hlf:Hid ((f v).length=53):=(hf v hv hG).1.len
 have k0b:Below w.heap.size w ((w.alloc (.cells (ab v) 175)).alloc (.cells gc 175)):=((Below.refl _ w).alloc (Nat.le_refl _) _).alloc (by simp) _
 have H1:=aa (hk v _ hv hG k0b)
 have hb2:an ((w.alloc (.cells (ab v) 175)).alloc (.cells gc 175)) w.heap.size (ab v):=(an.new w _ _).alloc _
 have HT2:Hid (((w.alloc (.cells (ab v) 175)).alloc (.cells gc 175)).heap[w.heap.size]?=some (.cells (ab v) 175 (0,0))∧((w.alloc (.cells (ab v) 175)).alloc (.cells gc 175)).heap[w.heap.size+1]?=some (.cells gc 175 (0,0))):=⟨(Below.heap_alloc _ _ _ (by simp)).trans (heap_alloc_new w _),by have:=heap_alloc_new (w.alloc (.cells (ab v) 175)) (.cells gc 175);rw[World.size_alloc]at this;exact this⟩
 have HK0:=aa k0b
 clear hk hR hf hG hv k0b
 go_enter Tryz.func164,Tryz.ntmps164
 go_wp2_with (first|(refine aT rfl ce _ rfl rfl (by assumption) (by assumption) ?_))
 refine H1.out.mono ?_
 rintro r w1 ⟨rfl,hb1⟩
 have HB1:=aa hb1
 have HT3:Hid (w1.heap[w.heap.size]?=some (.cells (ab v) 175 (0,0))∧w1.heap[w.heap.size+1]?=some (.cells gc 175 (0,0))∧Below w.heap.size w w1):=⟨(hb1.block _ (by simp;omega)).trans HT2.out.1,(hb1.block _ (by simp)).trans HT2.out.2,HK0.out.trans (hb1.mono HK0.out.size)⟩
 clear hb1 hb2 HT2 HK0 HB1
 go_wp2_with (first|(refine bM rfl ce _ _ rfl rfl rfl hlf (heap_alloc_new w1 _) kq ?_))
 show∀w':World,_
 intro w2 hw2 hk2
 have HI:Hid (w2.heap[w.heap.size]?=some (.cells (ab v) 175 (0,0))∧(∃A,w2.heap[w.heap.size+1]?=some (.cells A 175 (0,0))∧A.size=53)∧w2.heap[w1.heap.size]?=some (.cells (ab (f v)) 175 (0,0))∧w.heap.size+1< w1.heap.size∧Below w.heap.size w w2):=by
  have hz:=(Array.getElem?_eq_some_iff.1 HT3.out.2.1).1
  have hb:∀i,i< w1.heap.size→w2.heap[i]?=w1.heap[i]?:=fun i hi=>(hk2.block i (by simp;omega) (by show¬i=w1.heap.size;omega)).trans (Below.heap_alloc _ _ _ hi)
  refine⟨(hb _ (by omega)).trans HT3.out.1,⟨_,(hb _ hz).trans HT3.out.2.1,kq⟩,hw2,hz,?_⟩
  exact HT3.out.2.2.trans ⟨hk2.os,hk2.tape,hk2.output,Nat.le_trans (by simp) hk2.size,fun i hi=>hb i (by omega)⟩
 clear hw2 hk2 HT3 H1
 go_wp2_with fail
 go_loopg [5] k0 (fun g a wr=>∃(y:List Nat) (p:Nat),a=.pointer (some ⟨p,0,none⟩)∧Hid (aM f g y=some R)∧Hid (Wd 53 y∧G y)∧Hid (wr.heap[w.heap.size]?=some (.cells (ab y) 175 (0,0))∧(∃A,wr.heap[w.heap.size+1]?=some (.cells A 175 (0,0))∧A.size=53)∧wr.heap[p]?=some (.cells (ab (f y)) 175 (0,0))∧w.heap.size+1< p∧Below w.heap.size w wr))
 case atStart=>exact⟨v,w1.heap.size,rfl,HR,⟨HV.out,HG.out⟩,HI⟩
 case round=>
  obtain⟨y,p,rfl,HS,HW,HM⟩:=hrel
  have hly:Hid (y.length=53):=HW.out.1.len
  have hwf:=HF.out y HW.out.1 HW.out.2
  have hlfy:Hid ((f y).length=53):=hwf.1.len
  have hb2:an wr w.heap.size (ab y):=af HM.out.1
  have hbp:an wr p (ab (f y)):=af HM.out.2.2.1
  have hq:=sK hwf.1 HW.out.1
  have HWF:=aa hwf
  clear hwf hlv hlf
  by_cases e:f y=y
  ·have hne:(!decide (f y=y))=false:=by simp[e]
   have HX:Hid (y=R):=by
    have:=HS.out
    show y=R
    cases gk<;>simpa[aM,e]using this
   have hq2:∀W:World,(binOp .neq 175 (.agg (ab (f y))) (.agg (ab y))).run Tryz.prog W=.ok (.bool false) W:=fun W=>by rw[hq W,hne]
   obtain⟨A,hA,hAn⟩:=HM.out.2.1
   clear e hq hne
   go_wp2_with (first|(refine aT rfl ce _ rfl rfl hbp hlfy ?_)|(refine aT rfl ce _ rfl rfl hb2 hly ?_)|(refine bM rfl ce _ _ rfl rfl rfl hly hA hAn ?_))
   show∀w':World,_
   intro w3 hw3 hk3
   have HF3:Hid (Below w.heap.size w w3):=HM.out.2.2.2.2.trans (by
    have:=HM.out.2.2.2.2.size
    exact⟨hk3.os,hk3.tape,hk3.output,hk3.size,fun i hi=>hk3.block i (by omega) (by show¬i=w.heap.size+1;omega)⟩)
   have hsz:(Tryz.prog.info? 175).map (·.size)=some (ab y).size:=by rw[ar,hly.out];exact ce.hi
   clear hk3 hb2 hbp hA
   go_wp2_with fail
   refine bodyPost_ret (results_cell_row rfl _ _ (w.heap.size+1) 175 (ab y) (0,0) _ rfl hw3 Tryz.underlying175 rfl hsz) rfl ⟨by rw[←HX.out],HF3.out⟩
  ·have hne:(!decide (f y=y))=true:=by simp[e]
   obtain⟨g',rfl,HS2⟩:∃g',gk=g'+1∧Hid (aM f g' (f y)=some R):=by
    have:=HS.out
    cases gk with
    |zero=>simp[aM,e]at this
    |succ g'=>exact⟨g',rfl,by show aM f g' (f y)=some R;simpa[aM,e]using this⟩
   have hq2:∀W:World,(binOp .neq 175 (.agg (ab (f y))) (.agg (ab y))).run Tryz.prog W=.ok (.bool true) W:=fun W=>by rw[hq W,hne]
   have ht2:=HM.out.1
   have hy2:(ab y).size=53:=by rw[ar,hly.out]
   clear e hq hne
   go_wp2_with (first|(refine aT rfl ce _ rfl rfl hbp hlfy ?_)|(refine aT rfl ce _ rfl rfl hb2 hly ?_)|(refine bM rfl ce _ _ rfl rfl rfl hlfy ht2 hy2 ?_))
   show∀w':World,_
   intro w3 hw3 hk3
   have hbp3:an w3 p (ab (f y)):=hbp.kept hk3 (by have:=HM.out.2.2.2.1;show¬p=w.heap.size;omega)
   have HM3:Hid (w3.heap[w.heap.size]?=some (.cells (ab (f y)) 175 (0,0))∧(∃A,w3.heap[w.heap.size+1]?=some (.cells A 175 (0,0))∧A.size=53)∧w.heap.size+1< w3.heap.size∧Below w.heap.size w w3):=by
    obtain⟨A,hA,hAn⟩:=HM.out.2.1
    have hz:=(Array.getElem?_eq_some_iff.1 hA).1
    refine⟨hw3,⟨A,(hk3.block _ hz (by show¬w.heap.size+1=w.heap.size;omega)).trans hA,hAn⟩,Nat.lt_of_lt_of_le hz hk3.size,HM.out.2.2.2.2.trans ⟨hk3.os,hk3.tape,hk3.output,hk3.size,fun i hi=>hk3.block i (by omega) (by show¬i=w.heap.size;omega)⟩⟩
   clear hw3 hk3 hb2 hbp ht2 hq2 HM
   go_wp2_with (first|(refine aT rfl ce _ rfl rfl hbp3 hlfy ?_)|(refine bM rfl ce _ _ rfl rfl rfl hlfy (heap_alloc_new w3 _) kq ?_))
   show∀w':World,_
   intro w4 hw4 hk4
   have hlt4:w3.heap.size< w4.heap.size:=(Array.getElem?_eq_some_iff.1 hw4).1
   have HM4:Hid (w4.heap[w.heap.size]?=some (.cells (ab (f y)) 175 (0,0))∧(∃A,w4.heap[w.heap.size+1]?=some (.cells A 175 (0,0))∧A.size=53)∧w4.heap[w3.heap.size]?=some (.cells (ab (f y)) 175 (0,0))∧w.heap.size+1< w3.heap.size∧Below w.heap.size w w4):=by
    obtain⟨q1,⟨A,q2,q3⟩,q4,q5⟩:=HM3.out
    have hb:∀i,i< w3.heap.size→w4.heap[i]?=w3.heap[i]?:=fun i hi=>(hk4.block i (by simp;omega) (by show¬i=w3.heap.size;omega)).trans (Below.heap_alloc _ _ _ hi)
    exact⟨(hb _ (by omega)).trans q1,⟨A,(hb _ q4).trans q2,q3⟩,hw4,q4,q5.trans ⟨hk4.os,hk4.tape,hk4.output,by omega,fun i hi=>hb i (by omega)⟩⟩
   have hb4:an w4 w.heap.size (ab (f y)):=af HM4.out.1
   have HC:=aa (HK.out (f y) w4 HWF.out.1 HWF.out.2 HM4.out.2.2.2.2)
   have hlff:Hid ((f (f y)).length=53):=(HF.out _ HWF.out.1 HWF.out.2).1.len
   clear hw4 hk4 hbp3 HM3
   go_wp2_with (first|(refine aT rfl ce _ rfl rfl hb4 hlfy ?_))
   refine HC.out.mono ?_
   rintro r w5 ⟨rfl,hb5⟩
   have HM5:Hid (w5.heap[w.heap.size]?=some (.cells (ab (f y)) 175 (0,0))∧(∃A,w5.heap[w.heap.size+1]?=some (.cells A 175 (0,0))∧A.size=53)∧w5.heap[w3.heap.size]?=some (.cells (ab (f y)) 175 (0,0))∧w.heap.size+1< w3.heap.size∧Below w.heap.size w w5):=by
    obtain⟨q1,⟨A,q2,q3⟩,q4,q5,q6⟩:=HM4.out
    have hb:∀{i:Nat} {o:Obj},w4.heap[i]?=some o→w5.heap[i]?=some o:=fun h=>(hb5.block _ (Array.getElem?_eq_some_iff.1 h).1).trans h
    exact⟨hb q1,⟨A,hb q2,q3⟩,hb q4,q5,q6.trans (hb5.mono q6.size)⟩
   have ht5:=HM5.out.2.2.1
   have hy5:(ab (f y)).size=53:=by rw[ar,hlfy.out]
   clear hb5 hb4 HM4 HC
   go_wp2_with (first|(refine bM rfl ce _ _ rfl rfl rfl hlff ht5 hy5 ?_))
   show∀w':World,_
   intro w6 hw6 hk6
   have HM6:Hid (w6.heap[w.heap.size]?=some (.cells (ab (f y)) 175 (0,0))∧(∃A,w6.heap[w.heap.size+1]?=some (.cells A 175 (0,0))∧A.size=53)∧w6.heap[w3.heap.size]?=some (.cells (ab (f (f y))) 175 (0,0))∧w.heap.size+1< w3.heap.size∧Below w.heap.size w w6):=by
    obtain⟨q1,⟨A,q2,q3⟩,q4,q5,q6⟩:=HM5.out
    have hb:∀{i:Nat} {o:Obj},i≠w3.heap.size→w5.heap[i]?=some o→w6.heap[i]?=some o:=fun hne h=>(hk6.block _ (Array.getElem?_eq_some_iff.1 h).1 hne).trans h
    refine⟨hb (by omega) q1,⟨A,hb (by omega) q2,q3⟩,hw6,q5,q6.trans ⟨hk6.os,hk6.tape,hk6.output,hk6.size,fun i hi=>hk6.block i (by have:=q6.size;omega) (by show¬i=w3.heap.size;omega)⟩⟩
   clear hw6 hk6 ht5 HM5
   go_wp2_with fail
   go_roundg g'
   case rel=>exact⟨f y,w3.heap.size,rfl,HS2,HWF,HM6⟩
   all_goals omega
end
section
set_option maxRecDepth 100000
set_option maxHeartbeats 2000000
open Go.RowKit Go.Shelf
theorem nC:∀args w,(callFunc 102 args).run Tryz.prog w=.ok (.enter 102 args) w:=enters_of Tryz.func102 (by kernel_rfl) rfl
theorem Bi(a b:Nat)(w:World):Calls Tryz.prog 102 #[.int .u64 a,.int .u64 b] w fun r w'=>r=.returned (.int .u64 (dg a b:Nat))∧w'=w:=by
 have r1:=dt
 go_enter Tryz.func102,Tryz.ntmps102
 go_wp2_with fail
 go_ret
 exact⟨rfl,rfl⟩
theorem nK:∀args w,(callFunc 160 args).run Tryz.prog w=.ok (.enter 160 args) w:=enters_of Tryz.func160 (by kernel_rfl) rfl
def jE(l:List Nat)(tq what:Nat):List Nat:=l.set tq (dg (l.getD tq 0) what)
theorem An{w:World}{bW bA tq what:Nat}{l:List Nat}(hb:an w bA (ab l))(hl:l.length=53)(ht:tq< 53)(cm:w.cell? ⟨bW,2,none⟩=some (.func (.func 102) #[] #[])):
  Calls Tryz.prog 160 #[.int .i64 tq,.int .u64 what,.pointer (some ⟨bW,0,none⟩),.pointer (some ⟨bA,0,none⟩)] w fun r w'=>r=.returned (.tuple #[])∧an w' bA (ab (jE l tq what))∧ae (ao bA) w w':=by
 have hti:((tq:Nat):Int)< 53:=by omega
 have c1:w.cell? ⟨bA,tq,none⟩=some (.int .u64 (l.getD tq 0:Nat)):=by rw[hb.cell];exact aY (by omega)
 have f1:w.frozen? ⟨bA,tq,none⟩=false:=hb.fz tq
 have hbl:=hb.lt
 have HM:=aa (Bi (l.getD tq 0) what)
 have hen:=nC
 have HF:Hid (∀v:Nat,an (w.setCell ⟨bA,tq,none⟩ (.int .u64 v)).drew bA (ab (l.set tq v))∧ae (ao bA) w (w.setCell ⟨bA,tq,none⟩ (.int .u64 v)).drew):=fun v=>by
  have e1:=hb.set tq (.int .u64 (v:Nat)) (by rw[ar];omega)
  rw[dy]at e1
  exact⟨e1.below ⟨rfl,rfl,rfl,Nat.le_refl _,fun _ _=>rfl⟩,((ae.refl _ w).set1 tq _).drew⟩
 unfold jE
 generalize l.getD tq 0=lv at *
 clear hb
 go_enter Tryz.func160,Tryz.ntmps160
 go_wp2_with fail
 go_region_law (go_simp;refine(HM.out _).mono ?_;rintro q wq ⟨rfl,hq⟩;subst wq;try go_wp2_with fail)
 all_goals go_wp2_with fail
 all_goals go_end0
 all_goals exact⟨rfl,HF.out _⟩
theorem nB:∀args w,(callFunc 110 args).run Tryz.prog w=.ok (.enter 110 args) w:=enters_of Tryz.func110 (by kernel_rfl) rfl
theorem Bh(a b:Nat)(w:World):Calls Tryz.prog 110 #[.int .u64 a,.int .u64 b] w fun r w'=>r=.returned (.int .u64 (fa a b:Nat))∧w'=w:=by
 have r1:=cG
 go_enter Tryz.func110,Tryz.ntmps110
 go_wp2_with fail
 go_ret
 exact⟨rfl,rfl⟩
theorem nJ:∀args w,(callFunc 166 args).run Tryz.prog w=.ok (.enter 166 args) w:=enters_of Tryz.func166 (by kernel_rfl) rfl
def jD(l:List Nat)(tq what:Nat):List Nat:=l.set tq (fa (l.getD tq 0) what)
theorem Am{w:World}{bW bA tq what:Nat}{l:List Nat}(hb:an w bA (ab l))(hl:l.length=53)(ht:tq< 53)(cm:w.cell? ⟨bW,2,none⟩=some (.func (.func 110) #[] #[])):
  Calls Tryz.prog 166 #[.int .i64 tq,.int .u64 what,.pointer (some ⟨bW,0,none⟩),.pointer (some ⟨bA,0,none⟩)] w fun r w'=>r=.returned (.tuple #[])∧an w' bA (ab (jD l tq what))∧ae (ao bA) w w':=by
 have hti:((tq:Nat):Int)< 53:=by omega
 have c1:w.cell? ⟨bA,tq,none⟩=some (.int .u64 (l.getD tq 0:Nat)):=by rw[hb.cell];exact aY (by omega)
 have f1:w.frozen? ⟨bA,tq,none⟩=false:=hb.fz tq
 have hbl:=hb.lt
 have HM:=aa (Bh (l.getD tq 0) what)
 have hen:=nB
 have HF:Hid (∀v:Nat,an (w.setCell ⟨bA,tq,none⟩ (.int .u64 v)).drew bA (ab (l.set tq v))∧ae (ao bA) w (w.setCell ⟨bA,tq,none⟩ (.int .u64 v)).drew):=fun v=>by
  have e1:=hb.set tq (.int .u64 (v:Nat)) (by rw[ar];omega)
  rw[dy]at e1
  exact⟨e1.below ⟨rfl,rfl,rfl,Nat.le_refl _,fun _ _=>rfl⟩,((ae.refl _ w).set1 tq _).drew⟩
 unfold jD
 generalize l.getD tq 0=lv at *
 clear hb
 go_enter Tryz.func166,Tryz.ntmps166
 go_wp2_with fail
 go_region_law (go_simp;refine(HM.out _).mono ?_;rintro q wq ⟨rfl,hq⟩;subst wq;try go_wp2_with fail)
 all_goals go_wp2_with fail
 all_goals go_end0
 all_goals exact⟨rfl,HF.out _⟩
end
end Go.Proofs.YtmdaflepdaiabaaGreatDoor
