import Derived.Maps.OwnSet
import Derived.Test.YtmdaflepdaiabaaGreatDoorQ15
set_option linter.unusedSimpArgs false
set_option linter.unusedVariables false
namespace Go.Proofs.YtmdaflepdaiabaaGreatDoor
section
open Go.RowKit Go.Maps
def fB(w:World)(b c:Nat)(f:Nat→Option Nat):Prop:=∃D:DataW Unit,w.ownsMap Tryz.prog 141 (plainElem Tryz.prog 222) b c D∧Maps.size D=c∧(∀s:Nat,has D (.int .i64 s)=(f s).isSome)∧∀(s x:Nat),f s=some x→∀z,D.atKey (.int .i64 s) z=.lit (.int .i64 x)
theorem oK:Keyed Tryz.prog 141:=int_keyed Tryz.underlying141
theorem xn(w:World):(zeroValue 222).run Tryz.prog w=.ok (.int .i64 0) w:=by kernel_rfl
theorem tj(s:Nat)(hs:s≤1000000):keyOf Tryz.prog 141 (.int .i64 s)=some (.int .i64 s):=keyOf_int_mk Tryz.underlying141 (show(Lit.int .i64 (s:Int)).wf=true from WalkArith.wf_i64 (by omega))
theorem ti{s t:Nat}(h:s≠t):Lit.int .i64 (s:Int)≠Lit.int .i64 (t:Int):=fun e=>h (by injection e with _ e;omega)
theorem fB.new(w:World):fB (w.alloc (.map #[] 0)) w.heap.size 0 (fun _=>none):=⟨.map [],World.ownsMap_made w _ _ _,rfl,fun _=>rfl,fun _ _ h=>by cases h⟩
theorem fB.look{w:World}{b c:Nat}{f:Nat→Option Nat}(h:fB w b c f)(s:Nat)(hs:s≤1000000):
  (Instr.lookup 210 (.map (some b)) (.int .i64 s) false).run Tryz.prog w=.ok (.int .i64 ((f s).getD 0:Nat)) w:=by
 obtain⟨D,h1,_,h2,h3⟩:=h
 obtain⟨v,ps,hrun,hv⟩:=h1.lookup oK Tryz.underlying210 (xn w) (plainElem_int Tryz.underlying222 (by decide)) (tj s hs)
 rw[hrun]
 cases hf:f s with
 |none=>
  have hn:has D (.int .i64 s)=false:=by rw[h2,hf];rfl
  rw[atKey_of_not_has hn]at hv
  obtain⟨a,rfl,e,_⟩:=plainElem_int_inv Tryz.underlying222 hv
  cases e;rfl
 |some x=>
  rw[h3 _ x hf]at hv
  obtain⟨a,rfl,e,_⟩:=plainElem_int_inv Tryz.underlying222 hv
  cases e;rfl
theorem fB.len{w:World}{b c:Nat}{f:Nat→Option Nat}(h:fB w b c f)(ty:TypeId):(Builtin.len_ #[210] ty #[.map (some b)]).run Tryz.prog w=.ok (.int .i64 c) w:=by
 obtain⟨D,h1,h0,_,_⟩:=h
 rw[h1.len Tryz.underlying210,h0]
theorem fB.add{w:World}{b c:Nat}{f:Nat→Option Nat}(h:fB w b c f)(s:Nat)(hs:s≤1000000)(hn:c≤1000000)(hf:f s=none)(x:Nat)(hx:x≤1000000):
  ∃w',(Instr.mapUpdate 210 (.map (some b)) (.int .i64 s) (.int .i64 x)).run Tryz.prog w=.ok () w'∧fB w' b (c+1) (fun t=>if t=s then some x else f t)∧w.mapTurned w' b:=by
 obtain⟨D,h1,h0,h2,h3⟩:=h
 obtain⟨w',hrun,h4,h5⟩:=h1.store oK Tryz.underlying210 (by unfold maxLen;omega) (tj s hs) (plainElem_int Tryz.underlying222 (show(Lit.int .i64 (x:Int)).wf=true from WalkArith.wf_i64 (by omega)))
 refine⟨w',hrun,⟨_,h4,?_,fun t=>?_,fun t y hy z=>?_⟩,h5⟩
 ·rw[size_put (h1.tidy oK),if_neg (by rw[h2,hf];simp),h0]
 ·by_cases e:t=s
  ·subst e;rw[has_put_same (k:=.int .i64 t) h1.isMap (show WideAt.IsKeyLit (.int .i64 _)from trivial)];simp
  ·rw[has_put_other (ti e),h2];simp[e]
 ·by_cases e:t=s
  ·subst e;simp at hy;subst hy;exact atKey_put_same h1.isMap (show WideAt.IsKeyLit (.int .i64 _)from trivial) _ _
  ·rw[atKey_put_other (ti e)];simp[e]at hy;exact h3 t y hy z
theorem fB.move{w w':World}{b c:Nat}{f:Nat→Option Nat}(h:fB w b c f)(e:w'.heap[b]?=w.heap[b]?):fB w' b c f:=by
 obtain⟨D,⟨es,ck,h1,h2⟩,h3⟩:=h
 exact⟨D,⟨es,ck,by rw[e];exact h1,h2⟩,h3⟩
theorem fB.lt{w:World}{b c:Nat}{f:Nat→Option Nat}(h:fB w b c f):b< w.heap.size:=by
 obtain⟨D,⟨es,ck,h1,h2⟩,h3⟩:=h
 exact(Array.getElem?_eq_some_iff.1 h1).1
theorem fB.keep{w w':World}{b c:Nat}{f:Nat→Option Nat}(h:fB w b c f)(k:Below w.heap.size w w'):fB w' b c f:=h.move (k.block b h.lt)
theorem fB.kept{S:Nat→Prop}{w w':World}{b c:Nat}{f:Nat→Option Nat}(h:fB w b c f)(k:ae S w w')(hs:¬S b):fB w' b c f:=h.move (k.block b h.lt hs)
end
section
set_option maxRecDepth 100000
set_option maxHeartbeats 2000000
open Go.RowKit Go.Shelf
theorem aP.stmO{w0 w:World}{bR:Nat}{x:Rp}(h:aP w0 bR x)(k:Below w0.heap.size w0 w){s:Nat}(hs:s< x.stmts.length):∃g c bs sr sb,w.cell? ⟨bR,3,none⟩=some (.slice (some ⟨g,0,none⟩) x.stmts.length c)∧w.cell? ⟨g,s*4,none⟩=some (ak bs)∧w.cell? ⟨g,s*4+1,none⟩=some (.int .i64 (x.st s).fn)∧w.cell? ⟨g,s*4+2,none⟩=some (.int .i64 (x.st s).nx)∧w.cell? ⟨g,s*4+3,none⟩=some (.int .i64 (x.st s).ins)∧an w bs (aK (x.st s).p sr sb)∧w.ownsRow 0 193 4 sr (x.st s).r.length (et (x.st s).r)∧bs< w0.heap.size∧(∀i,sr.ownBlock=some i→i< w0.heap.size)∧bR< w0.heap.size:=by
 obtain⟨g,c,b,sr,sb,c0,c1,c2,c3,c4,hb,hr⟩:=h.stm hs
 have hc:∀{p:Addr} {v:Value},w0.cell? p=some v→w.cell? p=some v:=fun hp=>(k.cell (ah hp)).trans hp
 exact⟨g,c,b,sr,sb,hc c0,hc c1,hc c2,hc c3,hc c4,hb.below k,ay hr k,hb.lt,fun i e=>(hr.lt i e).2,ah c0⟩
def cO(w:World)(b bs fn:Nat)(nx ins:Int):World:=(w.alloc (.cells #[ak b] 228)).alloc (.cells #[ak bs,.int .i64 fn,.int .i64 nx,.int .i64 ins] 197)
theorem au(w:World)(b bs fn:Nat)(nx ins:Int):Below w.heap.size w (cO w b bs fn nx ins):=((Below.refl _ w).alloc (Nat.le_refl _) _).alloc (by simp) _
theorem ix{w w':World}{b bs fn:Nat}{nx ins:Int}{A:Array Value}(k:ae (ao b) (cO w b bs fn nx ins) w')(hb:b< w.heap.size)(hs:an w bs A)(hne:bs≠b):
  w'.cell? ⟨w.heap.size,0,none⟩=some (ak b)∧w'.cell? ⟨w.heap.size+1,0,none⟩=some (ak bs)∧w'.cell? ⟨w.heap.size+1,1,none⟩=some (.int .i64 fn)∧w'.cell? ⟨w.heap.size+1,2,none⟩=some (.int .i64 nx)∧w'.cell? ⟨w.heap.size+1,3,none⟩=some (.int .i64 ins)∧an w' bs A:=by
 have a1:=(an.new w #[ak b] 228).alloc (.cells #[ak bs,.int .i64 fn,.int .i64 nx,.int .i64 ins] 197)
 have a2:=an.new (w.alloc (.cells #[ak b] 228)) #[ak bs,.int .i64 fn,.int .i64 nx,.int .i64 ins] 197
 rw[World.size_alloc]at a2
 have b1:=a1.kept k (by show¬w.heap.size=b;omega)
 have b2:=a2.kept k (by show¬w.heap.size+1=b;omega)
 exact⟨b1.cell 0,b2.cell 0,b2.cell 1,b2.cell 2,b2.cell 3,(hs.below (au w b bs fn nx ins)).kept k hne⟩
def Fs.a0(s:Fs):Pa:=s.r.getD 0 ⟨[],0,0,0⟩
theorem mL{w:World}{sr:Value}{st:Fs}(h:w.ownsRow 0 193 4 sr st.r.length (et st.r))(hl:0< st.r.length):∃gr cr,sr=.slice (some ⟨gr,0,none⟩) st.r.length cr∧gr< w.heap.size∧∀W:World,(∀j,W.cell? ⟨gr,j,none⟩=w.cell? ⟨gr,j,none⟩)→W.cell? ⟨gr,0,none⟩=some (.string ⟨st.a0.text.toArray⟩)∧W.cell? ⟨gr,1,none⟩=some (.int .i64 st.a0.at_)∧W.cell? ⟨gr,2,none⟩=some (.int .i64 st.a0.num)∧W.cell? ⟨gr,3,none⟩=some (.int .i64 st.a0.n):=by
 obtain⟨gr,cr,rfl⟩:=aG h (by omega)
 have ha:st.r[0]?=some st.a0:=by unfold Fs.a0;rw[List.getD_eq_getElem?_getD,List.getElem?_eq_getElem hl];rfl
 refine⟨gr,cr,rfl,(h.lt gr rfl).2,fun W e=>?_⟩
 have q:∀j,j< 4→W.cell? ⟨gr,j,none⟩=(vH st.a0)[j]?:=fun j hj=>by
  rw[e j,h.cellAt j (by omega)]
  have:=jP ha j hj
  rw[Nat.zero_mul,Nat.zero_add]at this
  exact this
 exact⟨q 0 (by decide),q 1 (by decide),q 2 (by decide),q 3 (by decide)⟩
namespace Rp
def setG(x:Rp)(l:List Nat)(s:Nat):List Nat:=ed l (x.st s).fn (x.st s).p (bZ l (x.st s).fn (x.st s).a0)
def storeG(x:Rp)(l:List Nat)(s:Nat):List Nat:=addAt l (30+(x.st s).p.ln) (bZ l (x.st s).fn (x.st s).a0)
def loadG(x:Rp)(l:List Nat)(s:Nat):List Nat:=ed l (x.st s).fn (x.st s).p (ax l (30+(x.st s).a0.num))
end Rp
structure gM(s:Fs):Prop where
 fn:s.fn< 5
 ln:s.p.ln< 6
 side:s.p.side< 2
 nn:s.p.nn< 5
 len:s.r.length≤6
 num:∀a,a∈s.r→a.num< 6
theorem wu{w0 w:World}{bH bR b s:Nat}{x:Rp}{l:List Nat}(h:aP w0 bR x)(k:Below w0.heap.size w0 w)(hs:s< x.stmts.length)(hbb:w0.heap.size≤b)(hb:an w b (ab l))(hl:l.length=104)(c1:w.cell? ⟨bH,1,none⟩=some (ak bR))(so:gM (x.st s))(hk:(x.st s).p.kind=3)(h5:(x.st s).p.ln< 5)(hr:0< (x.st s).r.length):
  Calls Tryz.prog 97 #[ak bH,ak b,.int .i64 s] w fun q w'=>q=.returned (.tuple #[])∧an w' b (ab (x.storeG l s))∧ae (ao b) w w':=by
 obtain⟨g,c,bs,sr,sb,z3,z4,z5,z6,z7,hbs,hrow,hbo,hro,hRo⟩:=h.stmO k hs
 have hne:bs≠b:=by omega
 have hbl:=hb.lt
 have hHl:bH< w.heap.size:=ah c1
 have hRl:bR< w.heap.size:=ah z3
 have hGl:g< w.heap.size:=ah z4
 have hsl:=hs
 obtain⟨gr,cr,rfl,hgl,hat⟩:=mL hrow hr
 have hgb:gr≠b:=by have:=hro gr rfl;omega
 have hna:(x.st s).a0.num< 6:=so.num _ (by unfold Fs.a0;rw[List.getD_eq_getElem?_getD,List.getElem?_eq_getElem hr];exact List.getElem_mem _)
 unfold Rp.storeG
 have d2:w.cell? ⟨bs,2,none⟩=some (.int .i64 3):=by rw[hbs.cell 2];simp[aK,hk]
 have hfn:=so.fn
 generalize x.st s=st at *
 have hbsl:=hbs.lt
 have HSK:Hid (∀w',ae (ao b) (cO w b bs st.fn st.nx st.ins).drew w'→w'.cell? ⟨w.heap.size,0,none⟩=some (ak b)∧w'.cell? ⟨w.heap.size+1,0,none⟩=some (ak bs)∧w'.cell? ⟨w.heap.size+1,1,none⟩=some (.int .i64 st.fn)∧w'.cell? ⟨bs,5,none⟩=some (.int .i64 st.p.ln)∧w'.cell? ⟨bs,12,none⟩=some (.slice (some ⟨gr,0,none⟩) st.r.length cr)∧w'.cell? ⟨gr,0,none⟩=some (.string ⟨st.a0.text.toArray⟩)∧w'.cell? ⟨gr,1,none⟩=some (.int .i64 st.a0.at_)∧w'.cell? ⟨gr,2,none⟩=some (.int .i64 st.a0.num)∧w'.cell? ⟨gr,3,none⟩=some (.int .i64 st.a0.n)):=fun w' kk=>by
  have kk':ae (ao b) (cO w b bs st.fn st.nx st.ins) w':=⟨kk.os,kk.tape,kk.output,kk.size,kk.block⟩
  obtain⟨a1,a2,a3,a4,a5,a6⟩:=ix kk' hbl hbs hne
  have kw:=(ae.of_below (S:=ao b) (au w b bs st.fn st.nx st.ins)).trans' kk' (fun i e=>Or.inl e)
  obtain⟨b1,b2,b3,b4⟩:=hat w' (fun j=>kw.cell (p:=⟨gr,j,none⟩) hgl hgb)
  exact⟨a1,a2,a3,a6.cell 5,a6.cell 12,b1,b2,b3,b4⟩
 obtain⟨g0,g1,g2,g3,g4,g5,g6,g7,g8⟩:=HSK.out _ (ae.refl _ _)
 have hbW:an (cO w b bs st.fn st.nx st.ins).drew b (ab l):=hb.below (au w b bs st.fn st.nx st.ins).drew
 have HAT:=aa (mA (f:=st.fn) (a:=st.a0) hbW hl hfn hna)
 have HAD:Hid (∀w2,Below (cO w b bs st.fn st.nx st.ins).drew.heap.size (cO w b bs st.fn st.nx st.ins).drew w2→Calls Tryz.prog 151 #[.pointer (some ⟨b,60+st.p.ln*2,none⟩),.agg #[.int .u64 (bZ l st.fn st.a0).1,.int .u64 (bZ l st.fn st.a0).2]] w2 fun r w'=>r=.returned (.tuple #[])∧an w' b (ab (addAt l (30+st.p.ln) (bZ l st.fn st.a0)))∧ae (ao b) w2 w'):=fun w2 k2=>oo (hbW.below k2) (by omega) (by omega)
 have HD:Hid ((w.alloc (.cells #[ak b] 228)).alloc (.cells #[ak bs,.int .i64 st.fn,.int .i64 st.nx,.int .i64 st.ins] 197)=cO w b bs st.fn st.nx st.ins):=rfl
 have HKD:=aa (au w b bs st.fn st.nx st.ins)
 clear h k hbs hrow hro hat hbW hb so
 have y1:(0:Int)≤st.p.ln:=by omega
 have y2:(st.p.ln:Int)< 5:=by omega
 go_enter Tryz.func97,Tryz.ntmps97
 go_wp2_with fail
 rw[HD.out]
 go_region_held3 (fun w'=>w'.cell? ⟨w.heap.size,0,none⟩=some (ak b)∧w'.cell? ⟨w.heap.size+1,0,none⟩=some (ak bs)∧w'.cell? ⟨w.heap.size+1,1,none⟩=some (.int .i64 st.fn)∧w'.cell? ⟨bs,5,none⟩=some (.int .i64 st.p.ln)∧w'.cell? ⟨bs,12,none⟩=some (.slice (some ⟨gr,0,none⟩) st.r.length cr)∧w'.cell? ⟨gr,0,none⟩=some (.string ⟨st.a0.text.toArray⟩)∧w'.cell? ⟨gr,1,none⟩=some (.int .i64 st.a0.at_)∧w'.cell? ⟨gr,2,none⟩=some (.int .i64 st.a0.num)∧w'.cell? ⟨gr,3,none⟩=some (.int .i64 st.a0.n)) (first|exact⟨e0,e1,e2,e3,e4,e5,e6,e7,e8⟩|exact⟨g0,g1,g2,g3,g4,g5,g6,g7,g8⟩|go_keep) (first|(go_at_call 150;refine HAT.out.mono ?_;rintro q w2 ⟨rfl,hb2⟩;have HB2:=aa hb2;obtain⟨e0,e1,e2,e3,e4,e5,e6,e7,e8⟩:=HSK.out _ (ae.of_below hb2);clear hb2)|(go_at_call 151;refine(HAD.out w2 HB2.out).mono ?_;rintro q w3 ⟨rfl,hq⟩;have HQ:=aa hq;obtain⟨e0,e1,e2,e3,e4,e5,e6,e7,e8⟩:=HSK.out _ ((ae.of_below (S:=ao b) HB2.out).trans' hq.2 (fun i e=>Or.inl e));clear hq))
 all_goals go_wp2_with fail
 all_goals go_end0
 all_goals exact⟨rfl,HQ.out.1,(ae.of_below (S:=ao b) HKD.out.drew).trans' ((ae.of_below (S:=ao b) HB2.out).trans' HQ.out.2 (fun i e=>Or.inl e)) (fun i e=>Or.inl e)⟩
end
section
set_option maxRecDepth 100000
set_option maxHeartbeats 2000000
open Go.RowKit Go.Shelf
theorem qH{l:List Nat}{f:Nat}{p:Ph}{h:Nat×Nat}{j:Nat}(hf:f< 5)(hl:p.ln< 6)(hj:60≤j):(ab (ed l f p h))[j]?=(ab l)[j]?:=by
 unfold ed
 split
 ·rfl
 ·unfold addAt
  rw[←dy,←dy,Array.getElem?_setIfInBounds_ne (by omega),Array.getElem?_setIfInBounds_ne (by omega)]
theorem Ad{w0 w:World}{bH bR b s:Nat}{x:Rp}{l:List Nat}(h:aP w0 bR x)(k:Below w0.heap.size w0 w)(hs:s< x.stmts.length)(hbb:w0.heap.size≤b)(hb:an w b (ab l))(hl:l.length=104)(c1:w.cell? ⟨bH,1,none⟩=some (ak bR))(so:gM (x.st s))(hk:(x.st s).p.kind=1)(hop:(x.st s).p.op=0)(hr:0< (x.st s).r.length):
  Calls Tryz.prog 97 #[ak bH,ak b,.int .i64 s] w fun q w'=>q=.returned (.tuple #[])∧an w' b (ab (x.setG l s))∧ae (ao b) w w':=by
 obtain⟨g,c,bs,sr,sb,z3,z4,z5,z6,z7,hbs,hrow,hbo,hro,hRo⟩:=h.stmO k hs
 have hne:bs≠b:=by omega
 have hbl:=hb.lt
 have hHl:bH< w.heap.size:=ah c1
 have hRl:bR< w.heap.size:=ah z3
 have hGl:g< w.heap.size:=ah z4
 have hsl:=hs
 obtain⟨gr,cr,rfl,hgl,hat⟩:=mL hrow hr
 have hgb:gr≠b:=by have:=hro gr rfl;omega
 have hna:(x.st s).a0.num< 6:=so.num _ (by unfold Fs.a0;rw[List.getD_eq_getElem?_getD,List.getElem?_eq_getElem hr];exact List.getElem_mem _)
 unfold Rp.setG
 have d2:w.cell? ⟨bs,2,none⟩=some (.int .i64 1):=by rw[hbs.cell 2];simp[aK,hk]
 have d6:w.cell? ⟨bs,6,none⟩=some (.int .i64 0):=by rw[hbs.cell 6];simp[aK,hop]
 have hfn:=so.fn
 have hln:=so.ln
 have SO:=aa so
 generalize x.st s=st at *
 have hbsl:=hbs.lt
 have HSK:Hid (∀w',ae (ao b) (cO w b bs st.fn st.nx st.ins).drew w'→w'.cell? ⟨w.heap.size,0,none⟩=some (ak b)∧w'.cell? ⟨w.heap.size+1,0,none⟩=some (ak bs)∧w'.cell? ⟨w.heap.size+1,1,none⟩=some (.int .i64 st.fn)∧w'.cell? ⟨w.heap.size+1,2,none⟩=some (.int .i64 st.nx)∧w'.cell? ⟨w.heap.size+1,3,none⟩=some (.int .i64 st.ins)∧w'.cell? ⟨bs,12,none⟩=some (.slice (some ⟨gr,0,none⟩) st.r.length cr)∧w'.cell? ⟨gr,0,none⟩=some (.string ⟨st.a0.text.toArray⟩)∧w'.cell? ⟨gr,1,none⟩=some (.int .i64 st.a0.at_)∧w'.cell? ⟨gr,2,none⟩=some (.int .i64 st.a0.num)∧w'.cell? ⟨gr,3,none⟩=some (.int .i64 st.a0.n)):=fun w' kk=>by
  have kk':ae (ao b) (cO w b bs st.fn st.nx st.ins) w':=⟨kk.os,kk.tape,kk.output,kk.size,kk.block⟩
  obtain⟨a1,a2,a3,a4,a5,a6⟩:=ix kk' hbl hbs hne
  have kw:=(ae.of_below (S:=ao b) (au w b bs st.fn st.nx st.ins)).trans' kk' (fun i e=>Or.inl e)
  obtain⟨b1,b2,b3,b4⟩:=hat w' (fun j=>kw.cell (p:=⟨gr,j,none⟩) hgl hgb)
  exact⟨a1,a2,a3,a4,a5,a6.cell 12,b1,b2,b3,b4⟩
 obtain⟨g0,g1,g2,g3,g4,g5,g6,g7,g8,g9⟩:=HSK.out _ (ae.refl _ _)
 have hbW:an (cO w b bs st.fn st.nx st.ins).drew b (ab l):=hb.below (au w b bs st.fn st.nx st.ins).drew
 have hsW:an (cO w b bs st.fn st.nx st.ins).drew bs (aK st.p (.slice (some ⟨gr,0,none⟩) st.r.length cr) sb):=hbs.below (au w b bs st.fn st.nx st.ins).drew
 have HD:Hid ((w.alloc (.cells #[ak b] 228)).alloc (.cells #[ak bs,.int .i64 st.fn,.int .i64 st.nx,.int .i64 st.ins] 197)=(cO w b bs st.fn st.nx st.ins)):=rfl
 have HKD:=aa (au w b bs st.fn st.nx st.ins)
 have HAT:=aa (mA (f:=st.fn) (a:=st.a0) hbW hl hfn hna)
 have HGV:Hid (∀w2,Below (cO w b bs st.fn st.nx st.ins).drew.heap.size (cO w b bs st.fn st.nx st.ins).drew w2→Calls Tryz.prog 149 #[ak b,.agg #[ak bs,.int .i64 st.fn,.int .i64 st.nx,.int .i64 st.ins],.agg #[.int .u64 (bZ l st.fn st.a0).1,.int .u64 (bZ l st.fn st.a0).2]] w2 fun r w'=>r=.returned (.tuple #[])∧an w' b (ab (ed l st.fn st.p (bZ l st.fn st.a0)))∧ae (ao b) w2 w'):=fun w2 k2=>qG (hbW.below k2) (hsW.below k2) hl hne hfn hln
 clear h k hbs hrow hro hat hbW hsW hb so
 go_enter Tryz.func97,Tryz.ntmps97
 go_wp2_with fail
 rw[HD.out]
 go_region_held3 (fun w'=>w'.cell? ⟨w.heap.size,0,none⟩=some (ak b)∧w'.cell? ⟨w.heap.size+1,0,none⟩=some (ak bs)∧w'.cell? ⟨w.heap.size+1,1,none⟩=some (.int .i64 st.fn)∧w'.cell? ⟨w.heap.size+1,2,none⟩=some (.int .i64 st.nx)∧w'.cell? ⟨w.heap.size+1,3,none⟩=some (.int .i64 st.ins)∧w'.cell? ⟨bs,12,none⟩=some (.slice (some ⟨gr,0,none⟩) st.r.length cr)∧w'.cell? ⟨gr,0,none⟩=some (.string ⟨st.a0.text.toArray⟩)∧w'.cell? ⟨gr,1,none⟩=some (.int .i64 st.a0.at_)∧w'.cell? ⟨gr,2,none⟩=some (.int .i64 st.a0.num)∧w'.cell? ⟨gr,3,none⟩=some (.int .i64 st.a0.n)) (first|exact⟨e0,e1,e2,e3,e4,e5,e6,e7,e8,e9⟩|exact⟨g0,g1,g2,g3,g4,g5,g6,g7,g8,g9⟩|go_keep) (first|(go_at_call 150;refine HAT.out.mono ?_;rintro q w2 ⟨rfl,hb2⟩;have HB2:=aa hb2;obtain⟨e0,e1,e2,e3,e4,e5,e6,e7,e8,e9⟩:=HSK.out _ (ae.of_below hb2);clear hb2)|(go_at_call 149;refine(HGV.out w2 HB2.out).mono ?_;rintro q w3 ⟨rfl,hq⟩;have HQ:=aa hq;obtain⟨e0,e1,e2,e3,e4,e5,e6,e7,e8,e9⟩:=HSK.out _ ((ae.of_below (S:=ao b) HB2.out).trans' hq.2 (fun i e=>Or.inl e));clear hq))
 all_goals go_wp2_with fail
 all_goals go_end0
 all_goals exact⟨rfl,HQ.out.1,(ae.of_below (S:=ao b) HKD.out.drew).trans' ((ae.of_below (S:=ao b) HB2.out).trans' HQ.out.2 (fun i e=>Or.inl e)) (fun i e=>Or.inl e)⟩
theorem yo{w0 w:World}{bH bR b s:Nat}{x:Rp}{l:List Nat}(h:aP w0 bR x)(k:Below w0.heap.size w0 w)(hs:s< x.stmts.length)(hbb:w0.heap.size≤b)(hb:an w b (ab l))(hl:l.length=104)(c1:w.cell? ⟨bH,1,none⟩=some (ak bR))(so:gM (x.st s))(hk:(x.st s).p.kind=2)(h5:(x.st s).a0.num< 5)(hr:0< (x.st s).r.length):
  Calls Tryz.prog 97 #[ak bH,ak b,.int .i64 s] w fun q w'=>q=.returned (.tuple #[])∧an w' b (ab (x.loadG l s))∧ae (ao b) w w':=by
 obtain⟨g,c,bs,sr,sb,z3,z4,z5,z6,z7,hbs,hrow,hbo,hro,hRo⟩:=h.stmO k hs
 have hne:bs≠b:=by omega
 have hbl:=hb.lt
 have hHl:bH< w.heap.size:=ah c1
 have hRl:bR< w.heap.size:=ah z3
 have hGl:g< w.heap.size:=ah z4
 have hsl:=hs
 obtain⟨gr,cr,rfl,hgl,hat⟩:=mL hrow hr
 have hgb:gr≠b:=by have:=hro gr rfl;omega
 have hna:(x.st s).a0.num< 6:=so.num _ (by unfold Fs.a0;rw[List.getD_eq_getElem?_getD,List.getElem?_eq_getElem hr];exact List.getElem_mem _)
 unfold Rp.loadG
 have d2:w.cell? ⟨bs,2,none⟩=some (.int .i64 2):=by rw[hbs.cell 2];simp[aK,hk]
 have hfn:=so.fn
 have hln:=so.ln
 have SO:=aa so
 generalize x.st s=st at *
 have hbsl:=hbs.lt
 have HSK:Hid (∀w',ae (ao b) (cO w b bs st.fn st.nx st.ins).drew w'→w'.cell? ⟨w.heap.size,0,none⟩=some (ak b)∧w'.cell? ⟨w.heap.size+1,0,none⟩=some (ak bs)∧w'.cell? ⟨w.heap.size+1,1,none⟩=some (.int .i64 st.fn)∧w'.cell? ⟨w.heap.size+1,2,none⟩=some (.int .i64 st.nx)∧w'.cell? ⟨w.heap.size+1,3,none⟩=some (.int .i64 st.ins)∧w'.cell? ⟨bs,12,none⟩=some (.slice (some ⟨gr,0,none⟩) st.r.length cr)∧w'.cell? ⟨gr,0,none⟩=some (.string ⟨st.a0.text.toArray⟩)∧w'.cell? ⟨gr,1,none⟩=some (.int .i64 st.a0.at_)∧w'.cell? ⟨gr,2,none⟩=some (.int .i64 st.a0.num)∧w'.cell? ⟨gr,3,none⟩=some (.int .i64 st.a0.n)):=fun w' kk=>by
  have kk':ae (ao b) (cO w b bs st.fn st.nx st.ins) w':=⟨kk.os,kk.tape,kk.output,kk.size,kk.block⟩
  obtain⟨a1,a2,a3,a4,a5,a6⟩:=ix kk' hbl hbs hne
  have kw:=(ae.of_below (S:=ao b) (au w b bs st.fn st.nx st.ins)).trans' kk' (fun i e=>Or.inl e)
  obtain⟨b1,b2,b3,b4⟩:=hat w' (fun j=>kw.cell (p:=⟨gr,j,none⟩) hgl hgb)
  exact⟨a1,a2,a3,a4,a5,a6.cell 12,b1,b2,b3,b4⟩
 obtain⟨g0,g1,g2,g3,g4,g5,g6,g7,g8,g9⟩:=HSK.out _ (ae.refl _ _)
 have hbW:an (cO w b bs st.fn st.nx st.ins).drew b (ab l):=hb.below (au w b bs st.fn st.nx st.ins).drew
 have hsW:an (cO w b bs st.fn st.nx st.ins).drew bs (aK st.p (.slice (some ⟨gr,0,none⟩) st.r.length cr) sb):=hbs.below (au w b bs st.fn st.nx st.ins).drew
 have HD:Hid ((w.alloc (.cells #[ak b] 228)).alloc (.cells #[ak bs,.int .i64 st.fn,.int .i64 st.nx,.int .i64 st.ins] 197)=(cO w b bs st.fn st.nx st.ins)):=rfl
 have HKD:=aa (au w b bs st.fn st.nx st.ins)
 have v0:(cO w b bs st.fn st.nx st.ins).drew.cell? ⟨b,60+st.a0.num*2,none⟩=some (.int .u64 (ax l (30+st.a0.num)).1):=by
  rw[hbW.cell,show 60+st.a0.num*2=2*(30+st.a0.num)by omega]
  exact aY (by omega)
 have v1:(cO w b bs st.fn st.nx st.ins).drew.cell? ⟨b,60+st.a0.num*2+1,none⟩=some (.int .u64 (ax l (30+st.a0.num)).2):=by
  rw[hbW.cell,show 60+st.a0.num*2+1=2*(30+st.a0.num)+1 by omega]
  exact aY (by omega)
 have HGV:Hid (∀w2,Below (cO w b bs st.fn st.nx st.ins).drew.heap.size (cO w b bs st.fn st.nx st.ins).drew w2→Calls Tryz.prog 149 #[ak b,.agg #[ak bs,.int .i64 st.fn,.int .i64 st.nx,.int .i64 st.ins],.agg #[.int .u64 (ax l (30+st.a0.num)).1,.int .u64 (ax l (30+st.a0.num)).2]] w2 fun r w'=>r=.returned (.tuple #[])∧an w' b (ab (ed l st.fn st.p (ax l (30+st.a0.num))))∧ae (ao b) w2 w'):=fun w2 k2=>qG (hbW.below k2) (hsW.below k2) hl hne hfn hln
 have HSV:Hid (∀w':World,an w' b (ab (ed l st.fn st.p (ax l (30+st.a0.num))))→w'.cell? ⟨b,60+st.a0.num*2,none⟩=some (.int .u64 (ax l (30+st.a0.num)).1)∧w'.cell? ⟨b,60+st.a0.num*2+1,none⟩=some (.int .u64 (ax l (30+st.a0.num)).2)):=fun w' hB=>by
  rw[hB.cell,hB.cell,qH hfn hln (by omega),qH hfn hln (by omega),←hbW.cell,←hbW.cell]
  exact⟨v0,v1⟩
 have y1:(0:Int)≤st.a0.num:=by omega
 have y2:(st.a0.num:Int)< 5:=by omega
 generalize ax l (30+st.a0.num)=hv at *
 have hbD:b< (cO w b bs st.fn st.nx st.ins).drew.heap.size:=hbW.lt
 clear h k hbs hrow hro hat hbW hsW hb so
 go_enter Tryz.func97,Tryz.ntmps97
 go_wp2_with fail
 rw[HD.out]
 go_region_held3 (fun w'=>w'.cell? ⟨w.heap.size,0,none⟩=some (ak b)∧w'.cell? ⟨w.heap.size+1,0,none⟩=some (ak bs)∧w'.cell? ⟨w.heap.size+1,1,none⟩=some (.int .i64 st.fn)∧w'.cell? ⟨w.heap.size+1,2,none⟩=some (.int .i64 st.nx)∧w'.cell? ⟨w.heap.size+1,3,none⟩=some (.int .i64 st.ins)∧w'.cell? ⟨bs,12,none⟩=some (.slice (some ⟨gr,0,none⟩) st.r.length cr)∧w'.cell? ⟨gr,0,none⟩=some (.string ⟨st.a0.text.toArray⟩)∧w'.cell? ⟨gr,1,none⟩=some (.int .i64 st.a0.at_)∧w'.cell? ⟨gr,2,none⟩=some (.int .i64 st.a0.num)∧w'.cell? ⟨gr,3,none⟩=some (.int .i64 st.a0.n)∧w'.cell? ⟨b,60+st.a0.num*2,none⟩=some (.int .u64 hv.1)∧w'.cell? ⟨b,60+st.a0.num*2+1,none⟩=some (.int .u64 hv.2)) (first|exact⟨e0,e1,e2,e3,e4,e5,e6,e7,e8,e9,e10,e11⟩|exact⟨g0,g1,g2,g3,g4,g5,g6,g7,g8,g9,v0,v1⟩|go_keep) (first|(go_at_call 149;refine(HGV.out _ (Below.refl _ _)).mono ?_;rintro q w3 ⟨rfl,hq⟩;have HQ:=aa hq;obtain⟨e0,e1,e2,e3,e4,e5,e6,e7,e8,e9⟩:=HSK.out _ hq.2;obtain⟨e10,e11⟩:=HSV.out _ hq.1;clear hq))
 all_goals go_wp2_with fail
 all_goals go_end0
 all_goals exact⟨rfl,HQ.out.1,(ae.of_below (S:=ao b) HKD.out.drew).trans' HQ.out.2 (fun i e=>Or.inl e)⟩
theorem ww{w0 w:World}{bH bR b s:Nat}{x:Rp}{l:List Nat}(h:aP w0 bR x)(k:Below w0.heap.size w0 w)(hs:s< x.stmts.length)(hbb:w0.heap.size≤b)(hb:an w b (ab l))(hl:l.length=104)(c1:w.cell? ⟨bH,1,none⟩=some (ak bR))(so:gM (x.st s))(hk:(x.st s).p.kind=8):
  Calls Tryz.prog 97 #[ak bH,ak b,.int .i64 s] w fun q w'=>q=.returned (.tuple #[])∧an w' b (ab (l))∧ae (ao b) w w':=by
 obtain⟨g,c,bs,sr,sb,z3,z4,z5,z6,z7,hbs,hrow,hbo,hro,hRo⟩:=h.stmO k hs
 have hne:bs≠b:=by omega
 have hbl:=hb.lt
 have hHl:bH< w.heap.size:=ah c1
 have hRl:bR< w.heap.size:=ah z3
 have hGl:g< w.heap.size:=ah z4
 have hsl:=hs
 have d2:w.cell? ⟨bs,2,none⟩=some (.int .i64 8):=by rw[hbs.cell 2];simp[aK,hk]
 have hfn:=so.fn
 have hln:=so.ln
 have SO:=aa so
 generalize x.st s=st at *
 have hbsl:=hbs.lt
 have hbW:an (cO w b bs st.fn st.nx st.ins).drew b (ab l):=hb.below (au w b bs st.fn st.nx st.ins).drew
 have hsW:an (cO w b bs st.fn st.nx st.ins).drew bs (aK st.p sr sb):=hbs.below (au w b bs st.fn st.nx st.ins).drew
 have HD:Hid ((w.alloc (.cells #[ak b] 228)).alloc (.cells #[ak bs,.int .i64 st.fn,.int .i64 st.nx,.int .i64 st.ins] 197)=(cO w b bs st.fn st.nx st.ins)):=rfl
 have HKD:=aa (au w b bs st.fn st.nx st.ins)
 have HBW:=aa (hb.below HKD.out)
 clear h k hbs hrow hro hbW hsW hb so
 go_enter Tryz.func97,Tryz.ntmps97
 go_wp2_with fail
 rw[HD.out]
 go_end0
 exact⟨rfl,HBW.out,ae.of_below HKD.out⟩
theorem wv{w0 w:World}{bH bR b s:Nat}{x:Rp}{l:List Nat}(h:aP w0 bR x)(k:Below w0.heap.size w0 w)(hs:s< x.stmts.length)(hbb:w0.heap.size≤b)(hb:an w b (ab l))(hl:l.length=104)(c1:w.cell? ⟨bH,1,none⟩=some (ak bR))(so:gM (x.st s))(hk:(x.st s).p.kind=9):
  Calls Tryz.prog 97 #[ak bH,ak b,.int .i64 s] w fun q w'=>q=.returned (.tuple #[])∧an w' b (ab (l))∧ae (ao b) w w':=by
 obtain⟨g,c,bs,sr,sb,z3,z4,z5,z6,z7,hbs,hrow,hbo,hro,hRo⟩:=h.stmO k hs
 have hne:bs≠b:=by omega
 have hbl:=hb.lt
 have hHl:bH< w.heap.size:=ah c1
 have hRl:bR< w.heap.size:=ah z3
 have hGl:g< w.heap.size:=ah z4
 have hsl:=hs
 have d2:w.cell? ⟨bs,2,none⟩=some (.int .i64 9):=by rw[hbs.cell 2];simp[aK,hk]
 have hfn:=so.fn
 have hln:=so.ln
 have SO:=aa so
 generalize x.st s=st at *
 have hbsl:=hbs.lt
 have hbW:an (cO w b bs st.fn st.nx st.ins).drew b (ab l):=hb.below (au w b bs st.fn st.nx st.ins).drew
 have hsW:an (cO w b bs st.fn st.nx st.ins).drew bs (aK st.p sr sb):=hbs.below (au w b bs st.fn st.nx st.ins).drew
 have HD:Hid ((w.alloc (.cells #[ak b] 228)).alloc (.cells #[ak bs,.int .i64 st.fn,.int .i64 st.nx,.int .i64 st.ins] 197)=(cO w b bs st.fn st.nx st.ins)):=rfl
 have HKD:=aa (au w b bs st.fn st.nx st.ins)
 have HBW:=aa (hb.below HKD.out)
 clear h k hbs hrow hro hbW hsW hb so
 go_enter Tryz.func97,Tryz.ntmps97
 go_wp2_with fail
 rw[HD.out]
 go_end0
 exact⟨rfl,HBW.out,ae.of_below HKD.out⟩
theorem uw{w0 w:World}{bH bR b s:Nat}{x:Rp}{l:List Nat}(h:aP w0 bR x)(k:Below w0.heap.size w0 w)(hs:s< x.stmts.length)(hbb:w0.heap.size≤b)(hb:an w b (ab l))(hl:l.length=104)(c1:w.cell? ⟨bH,1,none⟩=some (ak bR))(so:gM (x.st s))(hk:(x.st s).p.kind=10):
  Calls Tryz.prog 97 #[ak bH,ak b,.int .i64 s] w fun q w'=>q=.returned (.tuple #[])∧an w' b (ab (l))∧ae (ao b) w w':=by
 obtain⟨g,c,bs,sr,sb,z3,z4,z5,z6,z7,hbs,hrow,hbo,hro,hRo⟩:=h.stmO k hs
 have hne:bs≠b:=by omega
 have hbl:=hb.lt
 have hHl:bH< w.heap.size:=ah c1
 have hRl:bR< w.heap.size:=ah z3
 have hGl:g< w.heap.size:=ah z4
 have hsl:=hs
 have d2:w.cell? ⟨bs,2,none⟩=some (.int .i64 10):=by rw[hbs.cell 2];simp[aK,hk]
 have hfn:=so.fn
 have hln:=so.ln
 have SO:=aa so
 generalize x.st s=st at *
 have hbsl:=hbs.lt
 have hbW:an (cO w b bs st.fn st.nx st.ins).drew b (ab l):=hb.below (au w b bs st.fn st.nx st.ins).drew
 have hsW:an (cO w b bs st.fn st.nx st.ins).drew bs (aK st.p sr sb):=hbs.below (au w b bs st.fn st.nx st.ins).drew
 have HD:Hid ((w.alloc (.cells #[ak b] 228)).alloc (.cells #[ak bs,.int .i64 st.fn,.int .i64 st.nx,.int .i64 st.ins] 197)=(cO w b bs st.fn st.nx st.ins)):=rfl
 have HKD:=aa (au w b bs st.fn st.nx st.ins)
 have HBW:=aa (hb.below HKD.out)
 clear h k hbs hrow hro hbW hsW hb so
 go_enter Tryz.func97,Tryz.ntmps97
 go_wp2_with fail
 rw[HD.out]
 go_end0
 exact⟨rfl,HBW.out,ae.of_below HKD.out⟩
theorem uu{w0 w:World}{bH bR b s:Nat}{x:Rp}{l:List Nat}(h:aP w0 bR x)(k:Below w0.heap.size w0 w)(hs:s< x.stmts.length)(hbb:w0.heap.size≤b)(hb:an w b (ab l))(hl:l.length=104)(c1:w.cell? ⟨bH,1,none⟩=some (ak bR))(so:gM (x.st s))(hk:(x.st s).p.kind=13):
  Calls Tryz.prog 97 #[ak bH,ak b,.int .i64 s] w fun q w'=>q=.returned (.tuple #[])∧an w' b (ab (l))∧ae (ao b) w w':=by
 obtain⟨g,c,bs,sr,sb,z3,z4,z5,z6,z7,hbs,hrow,hbo,hro,hRo⟩:=h.stmO k hs
 have hne:bs≠b:=by omega
 have hbl:=hb.lt
 have hHl:bH< w.heap.size:=ah c1
 have hRl:bR< w.heap.size:=ah z3
 have hGl:g< w.heap.size:=ah z4
 have hsl:=hs
 have d2:w.cell? ⟨bs,2,none⟩=some (.int .i64 13):=by rw[hbs.cell 2];simp[aK,hk]
 have hfn:=so.fn
 have hln:=so.ln
 have SO:=aa so
 generalize x.st s=st at *
 have hbsl:=hbs.lt
 have hbW:an (cO w b bs st.fn st.nx st.ins).drew b (ab l):=hb.below (au w b bs st.fn st.nx st.ins).drew
 have hsW:an (cO w b bs st.fn st.nx st.ins).drew bs (aK st.p sr sb):=hbs.below (au w b bs st.fn st.nx st.ins).drew
 have HD:Hid ((w.alloc (.cells #[ak b] 228)).alloc (.cells #[ak bs,.int .i64 st.fn,.int .i64 st.nx,.int .i64 st.ins] 197)=(cO w b bs st.fn st.nx st.ins)):=rfl
 have HKD:=aa (au w b bs st.fn st.nx st.ins)
 have HBW:=aa (hb.below HKD.out)
 clear h k hbs hrow hro hbW hsW hb so
 go_enter Tryz.func97,Tryz.ntmps97
 go_wp2_with fail
 rw[HD.out]
 go_end0
 exact⟨rfl,HBW.out,ae.of_below HKD.out⟩
theorem ut{w0 w:World}{bH bR b s:Nat}{x:Rp}{l:List Nat}(h:aP w0 bR x)(k:Below w0.heap.size w0 w)(hs:s< x.stmts.length)(hbb:w0.heap.size≤b)(hb:an w b (ab l))(hl:l.length=104)(c1:w.cell? ⟨bH,1,none⟩=some (ak bR))(so:gM (x.st s))(hk:(x.st s).p.kind=14):
  Calls Tryz.prog 97 #[ak bH,ak b,.int .i64 s] w fun q w'=>q=.returned (.tuple #[])∧an w' b (ab (l))∧ae (ao b) w w':=by
 obtain⟨g,c,bs,sr,sb,z3,z4,z5,z6,z7,hbs,hrow,hbo,hro,hRo⟩:=h.stmO k hs
 have hne:bs≠b:=by omega
 have hbl:=hb.lt
 have hHl:bH< w.heap.size:=ah c1
 have hRl:bR< w.heap.size:=ah z3
 have hGl:g< w.heap.size:=ah z4
 have hsl:=hs
 have d2:w.cell? ⟨bs,2,none⟩=some (.int .i64 14):=by rw[hbs.cell 2];simp[aK,hk]
 have hfn:=so.fn
 have hln:=so.ln
 have SO:=aa so
 generalize x.st s=st at *
 have hbsl:=hbs.lt
 have hbW:an (cO w b bs st.fn st.nx st.ins).drew b (ab l):=hb.below (au w b bs st.fn st.nx st.ins).drew
 have hsW:an (cO w b bs st.fn st.nx st.ins).drew bs (aK st.p sr sb):=hbs.below (au w b bs st.fn st.nx st.ins).drew
 have HD:Hid ((w.alloc (.cells #[ak b] 228)).alloc (.cells #[ak bs,.int .i64 st.fn,.int .i64 st.nx,.int .i64 st.ins] 197)=(cO w b bs st.fn st.nx st.ins)):=rfl
 have HKD:=aa (au w b bs st.fn st.nx st.ins)
 have HBW:=aa (hb.below HKD.out)
 clear h k hbs hrow hro hbW hsW hb so
 go_enter Tryz.func97,Tryz.ntmps97
 go_wp2_with fail
 rw[HD.out]
 go_end0
 exact⟨rfl,HBW.out,ae.of_below HKD.out⟩
theorem Ah{w0 w:World}{bH bR b s:Nat}{x:Rp}{l:List Nat}(h:aP w0 bR x)(k:Below w0.heap.size w0 w)(hs:s< x.stmts.length)(hbb:w0.heap.size≤b)(hb:an w b (ab l))(hl:l.length=104)(c1:w.cell? ⟨bH,1,none⟩=some (ak bR))(so:gM (x.st s))(hk:(x.st s).p.kind=12)(hr0:(x.st s).r.length=0):
  Calls Tryz.prog 97 #[ak bH,ak b,.int .i64 s] w fun q w'=>q=.returned (.tuple #[])∧an w' b (ab (l))∧ae (ao b) w w':=by
 obtain⟨g,c,bs,sr,sb,z3,z4,z5,z6,z7,hbs,hrow,hbo,hro,hRo⟩:=h.stmO k hs
 have hne:bs≠b:=by omega
 have hbl:=hb.lt
 have hHl:bH< w.heap.size:=ah c1
 have hRl:bR< w.heap.size:=ah z3
 have hGl:g< w.heap.size:=ah z4
 have hsl:=hs
 have d2:w.cell? ⟨bs,2,none⟩=some (.int .i64 12):=by rw[hbs.cell 2];simp[aK,hk]
 obtain⟨pr,cr,rfl⟩:=ai hrow
 have d12:w.cell? ⟨bs,12,none⟩=some (.slice pr 0 cr):=by rw[hbs.cell 12];simp[aK,hr0]
 have hfn:=so.fn
 have hln:=so.ln
 have SO:=aa so
 generalize x.st s=st at *
 have hbsl:=hbs.lt
 have hbW:an (cO w b bs st.fn st.nx st.ins).drew b (ab l):=hb.below (au w b bs st.fn st.nx st.ins).drew
 have hsW:an (cO w b bs st.fn st.nx st.ins).drew bs (aK st.p (.slice pr st.r.length cr) sb):=hbs.below (au w b bs st.fn st.nx st.ins).drew
 have HD:Hid ((w.alloc (.cells #[ak b] 228)).alloc (.cells #[ak bs,.int .i64 st.fn,.int .i64 st.nx,.int .i64 st.ins] 197)=(cO w b bs st.fn st.nx st.ins)):=rfl
 have HKD:=aa (au w b bs st.fn st.nx st.ins)
 have HBW:=aa (hb.below HKD.out)
 clear h k hbs hrow hro hbW hsW hb so hr0
 go_enter Tryz.func97,Tryz.ntmps97
 go_wp2_with fail
 rw[HD.out]
 go_loopw [227] (fun i wr=>i=.int .i64 0∧wr=cO w b bs st.fn st.nx st.ins) (fun _ _=>0)
 case atStart=>exact⟨rfl,rfl⟩
 case round=>
  obtain⟨rfl,rfl⟩:=hrel
  go_wp2_with fail
  go_end0
  exact⟨rfl,HBW.out,ae.of_below HKD.out⟩
end
section
set_option maxRecDepth 100000
set_option maxHeartbeats 2000000
open Go.RowKit Go.Shelf
theorem ur(g f:Nat)(r:List Pa):∀(i:Nat) (l:List Nat),(gB g f r i l).length=l.length:=by
 induction r with
 |nil=>intro i l;rfl
 |cons a r ih=>intro i l;show(gB g f r (i+1) _).length=_;rw[ih,ic]
theorem ux(l:List Nat)(f:Nat)(p:Ph)(h:Nat×Nat):(ed l f p h).length=l.length:=by unfold ed;split;rfl;rw[ic]
theorem aE{w0 w w':World}{b:Nat}(k:Below w0.heap.size w0 w)(kk:ae (ao b) w w')(hb:w0.heap.size≤b):Below w0.heap.size w0 w':=by
 refine⟨kk.os.trans k.os,kk.tape.trans k.tape,kk.output.trans k.output,Nat.le_trans k.size kk.size,fun i hi=>(kk.block i (Nat.lt_of_lt_of_le hi k.size) (fun e=>?_)).trans (k.block i hi)⟩
 have:i=b:=e
 omega
namespace Rp
def newG(x:Rp)(l:List Nat)(s m:Nat):List Nat:=ed l (x.st s).fn (x.st s).p (aC m,0)
def goG(x:Rp)(l:List Nat)(s m:Nat):List Nat:=ed (gB (x.st s).p.nn (x.st s).fn (x.st s).r 0 l) (x.st s).fn (x.st s).p (0,aC m)
end Rp
theorem Af{w0 w:World}{bH bR b s m bm n:Nat}{x:Rp}{f:Nat→Option Nat}{l:List Nat}(h:aP w0 bR x)(k:Below w0.heap.size w0 w)(hs:s< x.stmts.length)(hbb:w0.heap.size≤b)(hb:an w b (ab l))(hl:l.length=104)(c1:w.cell? ⟨bH,1,none⟩=some (ak bR))(so:gM (x.st s))(hk:(x.st s).p.kind=6)(c2:w.cell? ⟨bH,2,none⟩=some (.map (some bm)))(hHb:bH≠b)(hm:fB w bm n f)(hf:f s=some m)(hm6:m< 64)(hs6:s≤1000):
  Calls Tryz.prog 97 #[ak bH,ak b,.int .i64 s] w fun q w'=>q=.returned (.tuple #[])∧an w' b (ab (x.newG l s m))∧ae (ao b) w w':=by
 obtain⟨g,c,bs,sr,sb,z3,z4,z5,z6,z7,hbs,hrow,hbo,hro,hRo⟩:=h.stmO k hs
 have hne:bs≠b:=by omega
 have hbl:=hb.lt
 have hHl:bH< w.heap.size:=ah c1
 have hRl:bR< w.heap.size:=ah z3
 have hGl:g< w.heap.size:=ah z4
 have hsl:=hs
 unfold Rp.newG
 have d2:w.cell? ⟨bs,2,none⟩=some (.int .i64 6):=by rw[hbs.cell 2];simp[aK,hk]
 have hfn:=so.fn
 have hln:=so.ln
 have SO:=aa so
 generalize x.st s=st at *
 have hbsl:=hbs.lt
 have HSK:Hid (∀w',ae (ao b) (cO w b bs st.fn st.nx st.ins).drew w'→w'.cell? ⟨w.heap.size,0,none⟩=some (ak b)∧w'.cell? ⟨w.heap.size+1,0,none⟩=some (ak bs)∧w'.cell? ⟨w.heap.size+1,1,none⟩=some (.int .i64 st.fn)∧w'.cell? ⟨w.heap.size+1,2,none⟩=some (.int .i64 st.nx)∧w'.cell? ⟨w.heap.size+1,3,none⟩=some (.int .i64 st.ins)∧w'.cell? ⟨bH,2,none⟩=some (.map (some bm))):=fun w' kk=>by
  have kk':ae (ao b) (cO w b bs st.fn st.nx st.ins) w':=⟨kk.os,kk.tape,kk.output,kk.size,kk.block⟩
  obtain⟨a1,a2,a3,a4,a5,a6⟩:=ix kk' hbl hbs hne
  have kw:=(ae.of_below (S:=ao b) (au w b bs st.fn st.nx st.ins)).trans' kk' (fun i e=>Or.inl e)
  have hH2:=(kw.cell (p:=⟨bH,2,none⟩) hHl hHb).trans c2
  exact⟨a1,a2,a3,a4,a5,hH2⟩
 obtain⟨g0,g1,g2,g3,g4,g5⟩:=HSK.out _ (ae.refl _ _)
 have hbW:an (cO w b bs st.fn st.nx st.ins).drew b (ab l):=hb.below (au w b bs st.fn st.nx st.ins).drew
 have hsW:an (cO w b bs st.fn st.nx st.ins).drew bs (aK st.p sr sb):=hbs.below (au w b bs st.fn st.nx st.ins).drew
 have HD:Hid ((w.alloc (.cells #[ak b] 228)).alloc (.cells #[ak bs,.int .i64 st.fn,.int .i64 st.nx,.int .i64 st.ins] 197)=(cO w b bs st.fn st.nx st.ins)):=rfl
 have HKD:=aa (au w b bs st.fn st.nx st.ins)
 have hlk:(Instr.lookup 210 (.map (some bm)) (.int .i64 s) false).run Tryz.prog (cO w b bs st.fn st.nx st.ins).drew=.ok (.int .i64 (m:Nat)) (cO w b bs st.fn st.nx st.ins).drew:=by
  have:=(hm.keep (au w b bs st.fn st.nx st.ins).drew).look s (by omega)
  rw[hf]at this
  exact this
 have HON:=aa (qm m hm6)
 have HGV:Hid (Calls Tryz.prog 149 #[ak b,.agg #[ak bs,.int .i64 st.fn,.int .i64 st.nx,.int .i64 st.ins],.agg #[.int .u64 (aC m:Nat),.int .u64 0]] (cO w b bs st.fn st.nx st.ins).drew fun r w'=>r=.returned (.tuple #[])∧an w' b (ab (ed l st.fn st.p (aC m,0)))∧ae (ao b) (cO w b bs st.fn st.nx st.ins).drew w'):=qG (h:=(aC m,0)) hbW hsW hl hne hfn hln
 clear h k hbs hrow hro hbW hsW hb so hm
 go_enter Tryz.func97,Tryz.ntmps97
 go_wp2_with fail
 rw[HD.out]
 go_region_held3 (fun w'=>w'.cell? ⟨w.heap.size,0,none⟩=some (ak b)∧w'.cell? ⟨w.heap.size+1,0,none⟩=some (ak bs)∧w'.cell? ⟨w.heap.size+1,1,none⟩=some (.int .i64 st.fn)∧w'.cell? ⟨w.heap.size+1,2,none⟩=some (.int .i64 st.nx)∧w'.cell? ⟨w.heap.size+1,3,none⟩=some (.int .i64 st.ins)∧w'.cell? ⟨bH,2,none⟩=some (.map (some bm))) (first|exact⟨e0,e1,e2,e3,e4,e5⟩|exact⟨g0,g1,g2,g3,g4,g5⟩|go_keep) (first|(go_at_call 153;refine(HON.out _).mono ?_;rintro q wq ⟨rfl,hq⟩;subst wq)|(go_at_call 149;refine HGV.out.mono ?_;rintro q w3 ⟨rfl,hq⟩;have HQ:=aa hq;obtain⟨e0,e1,e2,e3,e4,e5⟩:=HSK.out _ hq.2;clear hq))
 all_goals go_wp2_with fail
 all_goals go_end0
 all_goals exact⟨rfl,HQ.out.1,(ae.of_below (S:=ao b) HKD.out.drew).trans' HQ.out.2 (fun i e=>Or.inl e)⟩
theorem Bo{w0 w:World}{bH bR b s m:Nat}{x:Rp}{l:List Nat}(h:aP w0 bR x)(k:Below w0.heap.size w0 w)(hs:s< x.stmts.length)(hbb:w0.heap.size≤b)(hb:an w b (ab l))(hl:l.length=104)(c1:w.cell? ⟨bH,1,none⟩=some (ak bR))(so:gM (x.st s))(hk:(x.st s).p.kind=7)(hHb:bH≠b)(hst:x.startAt s=some m)(hm6:m< 64)(hsm:x.starts.length< 64):
  Calls Tryz.prog 97 #[ak bH,ak b,.int .i64 s] w fun q w'=>q=.returned (.tuple #[])∧an w' b (ab (x.goG l s m))∧ae (ao b) w w':=by
 obtain⟨g,c,bs,sr,sb,z3,z4,z5,z6,z7,hbs,hrow,hbo,hro,hRo⟩:=h.stmO k hs
 have hne:bs≠b:=by omega
 have hbl:=hb.lt
 have hHl:bH< w.heap.size:=ah c1
 have hRl:bR< w.heap.size:=ah z3
 have hGl:g< w.heap.size:=ah z4
 have hsl:=hs
 unfold Rp.goG
 have d2:w.cell? ⟨bs,2,none⟩=some (.int .i64 7):=by rw[hbs.cell 2];simp[aK,hk]
 have hfn:=so.fn
 have hln:=so.ln
 have SO:=aa so
 generalize x.st s=st at *
 have hbsl:=hbs.lt
 have HSK:Hid (∀w',ae (ao b) (cO w b bs st.fn st.nx st.ins).drew w'→w'.cell? ⟨w.heap.size,0,none⟩=some (ak b)∧w'.cell? ⟨w.heap.size+1,0,none⟩=some (ak bs)∧w'.cell? ⟨w.heap.size+1,1,none⟩=some (.int .i64 st.fn)∧w'.cell? ⟨w.heap.size+1,2,none⟩=some (.int .i64 st.nx)∧w'.cell? ⟨w.heap.size+1,3,none⟩=some (.int .i64 st.ins)∧w'.cell? ⟨bH,1,none⟩=some (ak bR)):=fun w' kk=>by
  have kk':ae (ao b) (cO w b bs st.fn st.nx st.ins) w':=⟨kk.os,kk.tape,kk.output,kk.size,kk.block⟩
  obtain⟨a1,a2,a3,a4,a5,a6⟩:=ix kk' hbl hbs hne
  have kw:=(ae.of_below (S:=ao b) (au w b bs st.fn st.nx st.ins)).trans' kk' (fun i e=>Or.inl e)
  have hH1:=(kw.cell (p:=⟨bH,1,none⟩) hHl hHb).trans c1
  exact⟨a1,a2,a3,a4,a5,hH1⟩
 obtain⟨g0,g1,g2,g3,g4,g5⟩:=HSK.out _ (ae.refl _ _)
 have hbW:an (cO w b bs st.fn st.nx st.ins).drew b (ab l):=hb.below (au w b bs st.fn st.nx st.ins).drew
 have hsW:an (cO w b bs st.fn st.nx st.ins).drew bs (aK st.p sr sb):=hbs.below (au w b bs st.fn st.nx st.ins).drew
 have HD:Hid ((w.alloc (.cells #[ak b] 228)).alloc (.cells #[ak bs,.int .i64 st.fn,.int .i64 st.nx,.int .i64 st.ins] 197)=(cO w b bs st.fn st.nx st.ins)):=rfl
 have HKD:=aa (au w b bs st.fn st.nx st.ins)
 have HSA:Hid (∀W,Below w0.heap.size w0 W→Calls Tryz.prog 114 #[ak bR,.int .i64 s] W fun r w'=>r=.returned (.tuple #[.int .i64 (m:Nat),.bool true])∧w'=W):=fun W kk=>by
  have:=pZ (s:=s) (h.keep kk) hsm
  unfold mz at this
  unfold Rp.startAt at this hst
  rw[hst]at this
  exact this
 have HON:=aa (gX m hm6)
 have hrW:(cO w b bs st.fn st.nx st.ins).ownsRow 0 193 4 sr st.r.length (et st.r):=ay hrow (au w b bs st.fn st.nx st.ins)
 have HHD:=aa (Bm (f:=st.fn) (nx:=st.nx) (ins:=st.ins) (w:=(cO w b bs st.fn st.nx st.ins)) (hbW.below ⟨rfl,rfl,rfl,Nat.le_refl _,fun _ _=>rfl⟩) (hsW.below ⟨rfl,rfl,rfl,Nat.le_refl _,fun _ _=>rfl⟩) hrW (fun i e=>by have:=hro i e;omega) hl hne hfn so.nn so.len so.num)
 have HGV:Hid (∀w2,ae (ao b) (cO w b bs st.fn st.nx st.ins) w2→an w2 b (ab (gB st.p.nn st.fn st.r 0 l))→Calls Tryz.prog 149 #[ak b,.agg #[ak bs,.int .i64 st.fn,.int .i64 st.nx,.int .i64 st.ins],.agg #[.int .u64 0,.int .u64 (aC m:Nat)]] w2 fun r w'=>r=.returned (.tuple #[])∧an w' b (ab (ed (gB st.p.nn st.fn st.r 0 l) st.fn st.p (0,aC m)))∧ae (ao b) w2 w'):=fun w2 k2 hb2=>qG (h:=(0,aC m)) hb2 ((hbs.below (au w b bs st.fn st.nx st.ins)).kept k2 hne) (by rw[ur];exact hl) hne hfn hln
 have HK:=aa k
 have gc1:(cO w b bs st.fn st.nx st.ins).cell? ⟨w.heap.size,0,none⟩=some (ak b):=g0
 have gc2:(cO w b bs st.fn st.nx st.ins).cell? ⟨w.heap.size+1,0,none⟩=some (ak bs):=g1
 have gc3:(cO w b bs st.fn st.nx st.ins).cell? ⟨w.heap.size+1,1,none⟩=some (.int .i64 st.fn):=g2
 have gc4:(cO w b bs st.fn st.nx st.ins).cell? ⟨w.heap.size+1,2,none⟩=some (.int .i64 st.nx):=g3
 have gc5:(cO w b bs st.fn st.nx st.ins).cell? ⟨w.heap.size+1,3,none⟩=some (.int .i64 st.ins):=g4
 clear h k hbs hrow hro hbW hsW hb so hrW
 go_enter Tryz.func97,Tryz.ntmps97
 go_wp2_with fail
 rw[HD.out]
 refine HHD.out.mono ?_
 rintro q w3 ⟨rfl,hbw3,hk3⟩
 have hk3d:ae (ao b) (cO w b bs st.fn st.nx st.ins).drew w3:=⟨hk3.os,hk3.tape,hk3.output,hk3.size,hk3.block⟩
 have hkw3:=(ae.of_below (S:=ao b) HKD.out).trans' hk3 (fun i e=>Or.inl e)
 have HK3:=aa hk3
 have HBW3:=aa hbw3
 have HKW3:=aa hkw3
 have HSA3:=aa (HSA.out w3 (aE HK.out hkw3 hbb))
 obtain⟨f0,f1,f2,f3,f4,f5⟩:=HSK.out w3 hk3d
 have hl3:bH< w3.heap.size:=ah f5
 have HSK3:Hid (∀w',ae (ao b) w3 w'→w'.cell? ⟨w.heap.size,0,none⟩=some (ak b)∧w'.cell? ⟨w.heap.size+1,0,none⟩=some (ak bs)∧w'.cell? ⟨w.heap.size+1,1,none⟩=some (.int .i64 st.fn)∧w'.cell? ⟨w.heap.size+1,2,none⟩=some (.int .i64 st.nx)∧w'.cell? ⟨w.heap.size+1,3,none⟩=some (.int .i64 st.ins)):=fun w' kk=>by
  obtain⟨i0,i1,i2,i3,i4,_⟩:=HSK.out w' (HK3.out.trans' kk (fun i e=>Or.inl e) |> fun q=>⟨q.os,q.tape,q.output,q.size,q.block⟩)
  exact⟨i0,i1,i2,i3,i4⟩
 have HGV3:=aa (HGV.out w3.drew ⟨hk3.os,hk3.tape,hk3.output,hk3.size,hk3.block⟩ (hbw3.below ⟨rfl,rfl,rfl,Nat.le_refl _,fun _ _=>rfl⟩))
 clear hk3 hk3d hkw3 hbw3 g0 g1 g2 g3 g4 g5 gc1 gc2 gc3 gc4 gc5
 go_wp2_with fail
 refine HSA3.out.mono ?_
 rintro q wq ⟨rfl,hq⟩
 subst wq
 go_wp2_with fail
 go_region_held3 (fun w'=>w'.cell? ⟨w.heap.size,0,none⟩=some (ak b)∧w'.cell? ⟨w.heap.size+1,0,none⟩=some (ak bs)∧w'.cell? ⟨w.heap.size+1,1,none⟩=some (.int .i64 st.fn)∧w'.cell? ⟨w.heap.size+1,2,none⟩=some (.int .i64 st.nx)∧w'.cell? ⟨w.heap.size+1,3,none⟩=some (.int .i64 st.ins)) (first|exact⟨e0,e1,e2,e3,e4⟩|exact⟨f0,f1,f2,f3,f4⟩|go_keep) (first|(go_at_call 115;refine(HON.out _).mono ?_;rintro q wq ⟨rfl,hq⟩;subst wq)|(go_at_call 149;refine HGV3.out.mono ?_;rintro q w4 ⟨rfl,hq⟩;have HQ:=aa hq;obtain⟨e0,e1,e2,e3,e4⟩:=HSK3.out _ (⟨hq.2.os,hq.2.tape,hq.2.output,hq.2.size,hq.2.block⟩:ae (ao b) w3 w4);clear hq))
 all_goals go_wp2_with fail
 all_goals go_end0
 all_goals exact⟨rfl,HQ.out.1,HKW3.out.trans' (⟨HQ.out.2.os,HQ.out.2.tape,HQ.out.2.output,HQ.out.2.size,HQ.out.2.block⟩:ae (ao b) w3 w4) (fun i e=>Or.inl e)⟩
end
section
open Go.RowKit Go.Shelf
section
variable {P:Program} {ops:Array Oper} {Q:Exit→Act→World→Prop} {l n:Nat}
def gz(o:Oper):Bool:=match o.op with|.defer _=>false|_=>true
theorem rQ{o:Oper}(h:gz o=true):∀c,o.op≠.defer c:=fun c e=>by unfold gz at h;rw[e]at h;cases h
theorem lP{o:Oper}{a:Act}{K:Act→World→Prop}{r:Result Next}(h:o.upon P a K Q r):o.uponIn (Fence.wide.inRound l) n P a K Q r:=by
 unfold Oper.upon at h
 unfold Oper.uponIn
 split at h
 ·exact h
 ·exact h
 ·exact h
 ·exact⟨fun e=>(by cases e),CallsIn.inRound l (callsIn_wide.2 h)⟩
 ·refine⟨fun e=>(by cases e),fun c cs _=>?_⟩
  obtain⟨v,w',r,s⟩:=h c cs
  exact⟨v,w',r,stepsIn_wide.2 s⟩
 ·exact h
 ·exact h.elim
theorem tH{i:Nat}{K:Act→World→Prop}{a:Act}{w:World}(hnd:ops.all gz=true)(hlo:¬LetsOut Q)(h:wpOp P ops Q i K a w):wpOpIn (Fence.wide.inRound l) n P ops Q i K a w:=by
 unfold wpOp at h
 unfold wpOpIn
 cases ho:ops[i]? with
 |none=>rw[ho]at h;exact h
 |some o=>
  rw[ho]at h
  simp only at h⊢
  split
  ·rename_i hw
   rw[if_pos hw]at h
   rcases h with h|h
   ·refine⟨fun f _=>trivial,?_⟩
    have hd:gz o=true:=by
     have:=Array.all_eq_true'.1 hnd o (Array.mem_of_getElem? ho)
     exact this
    rw[Oper.semAt_eq _ _ _ (rQ hd)]
    exact lP h
   ·exact absurd h.2 hlo
  ·rename_i hw
   rw[if_neg hw]at h
   exact⟨fun f _=>trivial,h⟩
theorem lM{md:Region.Mode}(hnd:ops.all gz=true)(hlo:¬LetsOut Q):∀(fuel:Nat) (listed:Array Bool) (a:Act) (w:World),wpAny P md ops Q fuel listed a w→wpAnyIn (Fence.wide.inRound l) n P md ops Q fuel listed a w
 |0,_,_,_,h=>h
 |fuel+1,_,_,_,h=>⟨h.1,fun i hi=>wpOpIn_mono (fun a' w' h'=>lM hnd hlo fuel _ a' w' h') (tH hnd hlo (h.2 i hi))⟩
theorem eJ{id:Nat}{S:World→Prop}{a:Act}{w:World}(hm:P.follows .mixedOrders=true)(hnd:ops.all gz=true)(hlo:¬LetsOut Q)(hS:S w.drew)
  (h:S w.drew→wpAnyH P .any ops Q S ops.size (Array.replicate ops.size false) a w.drew):(Code.region id ops true).wpIn (Fence.wide.inRound l) n P Q a w:=
 wpIn_region_any hm (lM hnd hlo _ _ _ _ (wpAny_of_held _ _ _ _ (h hS)))
theorem rz{id:Nat}{S:World→Prop}{K:Act→World→Prop}{a:Act}{w:World}(hm:P.follows .mixedOrders=true)(hnd:ops.all gz=true)(hS:S w.drew)
  (h:S w.drew→wpAnyH P .any ops (Exit.then K (fun _ _ _=>False)) S ops.size (Array.replicate ops.size false) a w.drew):(Code.region id ops true).wpIn (Fence.wide.inRound l) n P (Exit.then K Q) a w:=
 tc (eJ hm hnd (fun⟨_,_,e⟩=>e) hS h)
end
theorem tk{P:Program}{md:Region.Mode}{ops:Array Oper}{Q:Exit→Act→World→Prop}{S:World→Prop}(i:Nat){oi:Oper}{v:Value}{fuel:Nat}{listed:Array Bool}{a:Act}{w:World}(hi:ops[i]?=some oi)(hb:(Region.noSelect ops&&Region.free md ops listed i&&(Region.ready md ops listed).contains i)=true)(hQ:∀c a w,Q (.panic c) (a.put oi.dst v) w→Q (.panic c) a w)(hS:S w)(hw:Region.wanted oi (yielded ops a.tmps)=true)(hy:∀w,S w→(execOp a.eval oi).run P w=.ok (.value v) w)(h:wpAnyH P md ops Q S fuel (listed.setIfInBounds i true) (a.put oi.dst v) w):wpAnyH P md ops Q S (fuel+1) listed a w:=by
 simp only[Bool.and_eq_true]at hb
 exact wpAnyH_take hi hb.1.1 hb.1.2 hb.2 hQ (Or.inl ⟨hw,hy⟩) hS h
theorem aS{α:Type}(l:List α)(i:Nat)(a:α):l.toArray.setIfInBounds i a=(l.set i a).toArray:=List.setIfInBounds_toArray ..
theorem aR{α:Type}(l:List α)(a b:α):(a::l).set 0 b=b::l:=rfl
theorem aQ{α:Type}(l:List α)(n:Nat)(a b:α):(a::l).set (n+1) b=a::l.set n b:=rfl
end
section
set_option maxRecDepth 100000
set_option maxHeartbeats 2000000
open Go.RowKit Go.Shelf
attribute [local go_sem] Oper.semAt_some
theorem iE(a b:Int)(w:World):(Instr.field 212 (.agg #[.int .u64 a,.int .u64 b]) 0).run Tryz.prog w=.ok (.int .u64 a) w:=by kernel_rfl
theorem cN{β:Type}{S:Nat→Prop}{w0:World}{B:Nat}(hB:w0.heap.size≤B):OwnFrom B (fun(_:β) W=>ae S w0 W):=fun _ X Y row hs hg hr=>hs.grown hg (fun k e=>Or.inr (Nat.le_trans hB (hr k e).1))
theorem cU{β:Type}{b B:Nat}{A:β→Array Value}(hB:b< B):OwnFrom B (fun(s:β) W=>an W b (A s)):=fun s X Y row hs hg hr=>by
 have e:Y.heap[b]?=X.heap[b]?:=hg.block b hs.lt (fun e=>by have:=(hr b e.symm).1;omega)
 exact⟨fun j=>(World.cell?_of_block (a:=⟨b,j,none⟩) e).trans (hs.cell j),fun j=>(World.frozen?_of_block (a:=⟨b,j,none⟩) e).trans (hs.fz j),Nat.lt_of_lt_of_le hs.lt hg.size⟩
theorem bY{b B:Nat}{W W':World}(k:ae (ao b) W W')(hb:b< B):KeepsFrom B W W':=⟨k.size,fun i o hi ho _=>(k.block i (Array.getElem?_eq_some_iff.1 ho).1 (fun e=>by have:i=b:=e;omega)).trans ho⟩
theorem cn{b n:Nat}{W W':World}(k:ae (ao b) W W')(hb:n≤b)(hn:n≤W.heap.size):Below n W W':=⟨k.os,k.tape,k.output,k.size,fun i hi=>k.block i (by omega) (fun e=>by have:i=b:=e;omega)⟩
theorem da{α β:Type}(f:β→α→β)(z:β)(l:List α)(a:α):(l++[a]).foldl f z=f (l.foldl f z) a:=by rw[List.foldl_append];rfl
namespace Rp
def getF(x:Rp)(s:Nat)(ts l:List Nat):List Nat:=ts.foldl (fun l t=>ed l (x.st s).fn (x.st s).p (ax l (35+t*2+(x.st s).p.side))) l
def getG(x:Rp)(l:List Nat)(s:Nat):List Nat:=x.getF s (els (bZ l (x.st s).fn (x.st s).a0).1) l
end Rp
theorem Ag{w0 w:World}{bH bR b s:Nat}{x:Rp}{l:List Nat}(h:aP w0 bR x)(k:Below w0.heap.size w0 w)(hs:s< x.stmts.length)(hbb:w0.heap.size≤b)(hb:an w b (ab l))(hl:l.length=104)(c1:w.cell? ⟨bH,1,none⟩=some (ak bR))(so:gM (x.st s))(hk:(x.st s).p.kind=4)(hr:0< (x.st s).r.length)(hT:Tz w)(hg:0< w0.heap.size)(hlt:(bZ l (x.st s).fn (x.st s).a0).1< bI)(h6:∀t,t< 64→(bZ l (x.st s).fn (x.st s).a0).1.testBit t=true→t< 6):
  Calls Tryz.prog 97 #[ak bH,ak b,.int .i64 s] w fun q w'=>q=.returned (.tuple #[])∧an w' b (ab (x.getG l s))∧ae (ao b) w w':=by
 obtain⟨g,c,bs,sr,sb,z3,z4,z5,z6,z7,hbs,hrow,hbo,hro,hRo⟩:=h.stmO k hs
 have hne:bs≠b:=by omega
 have hbl:=hb.lt
 have hHl:bH< w.heap.size:=ah c1
 have hRl:bR< w.heap.size:=ah z3
 have hGl:g< w.heap.size:=ah z4
 have hsl:=hs
 obtain⟨gr,cr,rfl,hgl,hat⟩:=mL hrow hr
 have hgb:gr≠b:=by have:=hro gr rfl;omega
 have hna:(x.st s).a0.num< 6:=so.num _ (by unfold Fs.a0;rw[List.getD_eq_getElem?_getD,List.getElem?_eq_getElem hr];exact List.getElem_mem _)
 unfold Rp.getG Rp.getF
 have d2:w.cell? ⟨bs,2,none⟩=some (.int .i64 4):=by rw[hbs.cell 2];simp[aK,hk]
 have hfn:=so.fn
 have hln:=so.ln
 have SO:=aa so
 generalize x.st s=st at *
 have hbsl:=hbs.lt
 have HSK:Hid (∀w',ae (ao b) (cO w b bs st.fn st.nx st.ins).drew w'→w'.cell? ⟨w.heap.size,0,none⟩=some (ak b)∧w'.cell? ⟨w.heap.size+1,0,none⟩=some (ak bs)∧w'.cell? ⟨w.heap.size+1,1,none⟩=some (.int .i64 st.fn)∧w'.cell? ⟨w.heap.size+1,2,none⟩=some (.int .i64 st.nx)∧w'.cell? ⟨w.heap.size+1,3,none⟩=some (.int .i64 st.ins)∧w'.cell? ⟨bs,7,none⟩=some (.int .i64 st.p.side)∧w'.cell? ⟨bs,12,none⟩=some (.slice (some ⟨gr,0,none⟩) st.r.length cr)∧w'.cell? ⟨gr,0,none⟩=some (.string ⟨st.a0.text.toArray⟩)∧w'.cell? ⟨gr,1,none⟩=some (.int .i64 st.a0.at_)∧w'.cell? ⟨gr,2,none⟩=some (.int .i64 st.a0.num)∧w'.cell? ⟨gr,3,none⟩=some (.int .i64 st.a0.n)):=fun w' kk=>by
  have kk':ae (ao b) (cO w b bs st.fn st.nx st.ins) w':=⟨kk.os,kk.tape,kk.output,kk.size,kk.block⟩
  obtain⟨a1,a2,a3,a4,a5,a6⟩:=ix kk' hbl hbs hne
  have kw:=(ae.of_below (S:=ao b) (au w b bs st.fn st.nx st.ins)).trans' kk' (fun i e=>Or.inl e)
  obtain⟨b1,b2,b3,b4⟩:=hat w' (fun j=>kw.cell (p:=⟨gr,j,none⟩) hgl hgb)
  exact⟨a1,a2,a3,a4,a5,a6.cell 7,a6.cell 12,b1,b2,b3,b4⟩
 obtain⟨g0,g1,g2,g3,g4,g5,g6,g7,g8,g9,g10⟩:=HSK.out _ (ae.refl _ _)
 have hbW:an (cO w b bs st.fn st.nx st.ins).drew b (ab l):=hb.below (au w b bs st.fn st.nx st.ins).drew
 have hsW:an (cO w b bs st.fn st.nx st.ins).drew bs (aK st.p (.slice (some ⟨gr,0,none⟩) st.r.length cr) sb):=hbs.below (au w b bs st.fn st.nx st.ins).drew
 have HD:Hid ((w.alloc (.cells #[ak b] 228)).alloc (.cells #[ak bs,.int .i64 st.fn,.int .i64 st.nx,.int .i64 st.ins] 197)=(cO w b bs st.fn st.nx st.ins)):=rfl
 have HKD:=aa (au w b bs st.fn st.nx st.ins)
 have hfd:=iE
 have HAT:=aa (mA (f:=st.fn) (a:=st.a0) hbW hl hfn hna)
 have HBW:Hid (an (cO w b bs st.fn st.nx st.ins) b (ab l)):=hb.below (au w b bs st.fn st.nx st.ins)
 have hside:=so.side
 have HSB:=aa hbs
 have hz0:w0.heap.size≤w.heap.size:=k.size
 clear h k hbs hrow hro hat hbW hsW hb so
 refine(callsIn_wide (n:=3)).1 ?_
 refine callsIn_of_wp_marks Tryz.func97 rfl trivial ?_ rfl
 simp only[Tryz.ntmps97,List.size_toArray,List.length_cons,List.length_nil,Nat.reduceAdd,Nat.reduceSub,Array.replicate_succ,Array.replicate_zero,List.push_toArray,List.append_toArray,List.nil_append,List.cons_append]
 gi_wp2
 rw[HD.out]
 refine wpIn_wide.2 ?_
 go_region_held3 (fun w'=>w'.cell? ⟨w.heap.size,0,none⟩=some (ak b)∧w'.cell? ⟨w.heap.size+1,0,none⟩=some (ak bs)∧w'.cell? ⟨w.heap.size+1,1,none⟩=some (.int .i64 st.fn)∧w'.cell? ⟨w.heap.size+1,2,none⟩=some (.int .i64 st.nx)∧w'.cell? ⟨w.heap.size+1,3,none⟩=some (.int .i64 st.ins)∧w'.cell? ⟨bs,7,none⟩=some (.int .i64 st.p.side)∧w'.cell? ⟨bs,12,none⟩=some (.slice (some ⟨gr,0,none⟩) st.r.length cr)∧w'.cell? ⟨gr,0,none⟩=some (.string ⟨st.a0.text.toArray⟩)∧w'.cell? ⟨gr,1,none⟩=some (.int .i64 st.a0.at_)∧w'.cell? ⟨gr,2,none⟩=some (.int .i64 st.a0.num)∧w'.cell? ⟨gr,3,none⟩=some (.int .i64 st.a0.n)) (first|exact⟨e0,e1,e2,e3,e4,e5,e6,e7,e8,e9,e10⟩|exact⟨g0,g1,g2,g3,g4,g5,g6,g7,g8,g9,g10⟩|go_keep) (first|(go_at_call 150;refine HAT.out.mono ?_;rintro q w2 ⟨rfl,hb2⟩;have HB2:=aa hb2;obtain⟨e0,e1,e2,e3,e4,e5,e6,e7,e8,e9,e10⟩:=HSK.out _ (ae.of_below hb2);clear hb2)|(go_at_call 152;refine(callsIn_wide.1 (mM 2 _ _)).mono ?_;rintro e w' ⟨rfl,hq⟩;subst w'))
 all_goals
  obtain⟨W2,hW2⟩:∃W,W=w2.alloc (.cells #[.int .u64 (bZ l st.fn st.a0).1] 144):=⟨_,rfl⟩
  have k2:Below (cO w b bs st.fn st.nx st.ins).heap.size (cO w b bs st.fn st.nx st.ins) W2:=by
   rw[hW2]
   exact(⟨HB2.out.os,HB2.out.tape,HB2.out.output,HB2.out.size,HB2.out.block⟩:Below (cO w b bs st.fn st.nx st.ins).heap.size (cO w b bs st.fn st.nx st.ins) w2).alloc HB2.out.size _
  have kw2:Below w.heap.size w W2:=HKD.out.trans (k2.mono HKD.out.size)
  have bA:Boxed W2 w2.heap.size 144 (.int .u64 (bZ l st.fn st.a0).1):=by rw[hW2];exact Boxed.new _ _ _
  have hz2:w2.heap.size< W2.heap.size:=bA.lt
  have hzD:(cO w b bs st.fn st.nx st.ins).heap.size≤W2.heap.size:=k2.size
  have hzw:w.heap.size≤W2.heap.size:=kw2.size
  have HB0:=aa (HBW.out.below k2)
  have HK2:=aa k2
  rw[←hW2]
  have HW2:=aa hW2
  clear hW2 k2 e0 e1 e2 e3 e4 e5 e6 e7 e8 e9 e10 g0 g1 g2 g3 g4 g5 g6 g7 g8 g9 g10
  gi_wp2
  refine' wpIn_rangeFunc_ownG rfl (by decide) (gf:=197) (lb:=#[.pointer (some ⟨w2.heap.size,0,none⟩)]) rfl trivial (enters_of Tryz.func197 (by kernel_rfl) rfl)
   (jz 2 (by decide) w2.heap.size w0.heap.size (bZ l st.fn st.a0).1 hlt _ hz2 (by omega) hg bA.cell (hT.below kw2)) belowK_t (belowK_b (by omega)) (Below.refl _ _) (fun _=>rfl)
   (fun pre W=>an W b (ab ((pre.map (·.1)).foldl (fun l t=>ed l st.fn st.p (ax l (35+t*2+st.p.side))) l))∧ae (ao b) (cO w b bs st.fn st.nx st.ins) W)
   (fun _ _ _=>False)
   (OwnFrom.and (cU (by omega)) (cN hzD))
   (fun _ _ _ _ _ hs _ _=>hs)
   ⟨HB0.out,ae.of_below HK2.out⟩ _ ?assign ?body ?done ?stop
  case assign=>
   intro lr z W K hK
   gi_wp2
   exact hK
  case body=>
   rintro lr pre z W ⟨hbW,hkW⟩ hpl
   have hz6:=h6 z.1 z.2.1 z.2.2
   have hz6i:((z.1:Nat):Int)< 6:=by omega
   have hsi:((st.p.side:Nat):Int)< 2:=by omega
   have kd:ae (ao b) (cO w b bs st.fn st.nx st.ins).drew W.drew:=⟨hkW.os,hkW.tape,hkW.output,hkW.size,hkW.block⟩
   obtain⟨g0,g1,g2,g3,g4,g5,-⟩:=HSK.out W.drew kd
   obtain⟨L,hL⟩:∃L,L=(pre.map (·.1)).foldl (fun l t=>ed l st.fn st.p (ax l (35+t*2+st.p.side))) l:=⟨_,rfl⟩
   have hLl:L.length=104:=by
    rw[hL]
    have:∀(ts l:List Nat),(ts.foldl (fun l t=>ed l st.fn st.p (ax l (35+t*2+st.p.side))) l).length=l.length:=by
     intro ts
     induction ts with
     |nil=>intro l;rfl
     |cons t ts ih=>intro l;rw[List.foldl_cons,ih,ux]
    rw[this];exact hl
   rw[←hL]at hbW
   have hbd:an W.drew b (ab L):=hbW.below ⟨rfl,rfl,rfl,Nat.le_refl _,fun _ _=>rfl⟩
   have v0:W.drew.cell? ⟨b,70+z.1*4+st.p.side*2,none⟩=some (.int .u64 (ax L (35+z.1*2+st.p.side)).1):=by
    rw[hbd.cell,show 70+z.1*4+st.p.side*2=2*(35+z.1*2+st.p.side)by omega]
    exact aY (by omega)
   have v1:W.drew.cell? ⟨b,70+z.1*4+st.p.side*2+1,none⟩=some (.int .u64 (ax L (35+z.1*2+st.p.side)).2):=by
    rw[hbd.cell,show 70+z.1*4+st.p.side*2+1=2*(35+z.1*2+st.p.side)+1 by omega]
    exact aY (by omega)
   have HGV:=aa (qG (w:=W.drew) (f:=st.fn) (nx:=st.nx) (ins:=st.ins) (h:=ax L (35+z.1*2+st.p.side)) hbd ((HSB.out.below HKD.out).kept (⟨hkW.os,hkW.tape,hkW.output,hkW.size,hkW.block⟩:ae (ao b) (cO w b bs st.fn st.nx st.ins) W.drew) hne) hLl hne hfn hln)
   have HLN:Hid (((pre++[z]).map (·.1)).foldl (fun l t=>ed l st.fn st.p (ax l (35+t*2+st.p.side))) l=ed L st.fn st.p (ax L (35+z.1*2+st.p.side))):=by
    show _=_
    rw[List.map_append,hL]
    exact da _ _ _ _
   generalize ax L (35+z.1*2+st.p.side)=hv at *
   have HKW:=aa hkW
   have hbDl:b< W.drew.heap.size:=hbd.lt
   have HSK2:=HSK
   clear hbd hbW hkW kd hL HSK
   gi_wp2
   refine eJ (S:=fun w'=>w'.cell? ⟨w.heap.size,0,none⟩=some (ak b)∧w'.cell? ⟨w.heap.size+1,0,none⟩=some (ak bs)∧w'.cell? ⟨w.heap.size+1,1,none⟩=some (.int .i64 st.fn)∧w'.cell? ⟨w.heap.size+1,2,none⟩=some (.int .i64 st.nx)∧w'.cell? ⟨w.heap.size+1,3,none⟩=some (.int .i64 st.ins)∧w'.cell? ⟨bs,7,none⟩=some (.int .i64 st.p.side)) (by kernel_rfl) (by kernel_rfl) (fun⟨_,_,e⟩=>e) (⟨g0,g1,g2,g3,g4,g5⟩) (fun hHeld=>?_)
   refine tk 0 (v:=?v0) rfl (by kernel_rfl) (fun _ _ _ h=>h) (by assumption) rfl ?hy0 ?_
   case hy0=>intro _ h;(try dsimp only at h);go_simp;try with_reducible rfl
   try simp only[Act.put,aS,aR,aQ]
   refine tk 1 (v:=?v1) rfl (by kernel_rfl) (fun _ _ _ h=>h) (by assumption) rfl ?hy1 ?_
   case hy1=>intro _ h;(try dsimp only at h);go_simp;try with_reducible rfl
   try simp only[Act.put,aS,aR,aQ]
   refine tk 2 (v:=?v2) rfl (by kernel_rfl) (fun _ _ _ h=>h) (by assumption) rfl ?hy2 ?_
   case hy2=>intro _ h;(try dsimp only at h);go_simp;try with_reducible rfl
   try simp only[Act.put,aS,aR,aQ]
   refine tk 3 (v:=?v3) rfl (by kernel_rfl) (fun _ _ _ h=>h) (by assumption) rfl ?hy3 ?_
   case hy3=>intro _ h;(try dsimp only at h);go_simp;try with_reducible rfl
   try simp only[Act.put,aS,aR,aQ]
   refine tk 4 (v:=?v4) rfl (by kernel_rfl) (fun _ _ _ h=>h) (by assumption) rfl ?hy4 ?_
   case hy4=>intro _ h;(try dsimp only at h);go_simp;try with_reducible rfl
   try simp only[Act.put,aS,aR,aQ]
   refine tk 5 (v:=?v5) rfl (by kernel_rfl) (fun _ _ _ h=>h) (by assumption) rfl ?hy5 ?_
   case hy5=>intro _ h;(try dsimp only at h);go_simp;try with_reducible rfl
   try simp only[Act.put,aS,aR,aQ]
   refine tk 6 (v:=?v6) rfl (by kernel_rfl) (fun _ _ _ h=>h) (by assumption) rfl ?hy6 ?_
   case hy6=>intro _ h;(try dsimp only at h);go_simp;try with_reducible rfl
   try simp only[Act.put,aS,aR,aQ]
   refine tk 7 (v:=?v7) rfl (by kernel_rfl) (fun _ _ _ h=>h) (by assumption) rfl ?hy7 ?_
   case hy7=>intro _ h;(try dsimp only at h);go_simp;try with_reducible rfl
   try simp only[Act.put,aS,aR,aQ]
   refine tk 8 (v:=?v8) rfl (by kernel_rfl) (fun _ _ _ h=>h) (by assumption) rfl ?hy8 ?_
   case hy8=>intro _ h;(try dsimp only at h);go_simp;try with_reducible rfl
   try simp only[Act.put,aS,aR,aQ]
   refine tk 9 (v:=?v9) rfl (by kernel_rfl) (fun _ _ _ h=>h) (by assumption) rfl ?hy9 ?_
   case hy9=>intro _ h;(try dsimp only at h);go_simp;try with_reducible rfl
   try simp only[Act.put,aS,aR,aQ]
   refine tk 10 (v:=?v10) rfl (by kernel_rfl) (fun _ _ _ h=>h) (by assumption) rfl ?hy10 ?_
   case hy10=>intro _ h;(try dsimp only at h);go_simp;try with_reducible rfl
   try simp only[Act.put,aS,aR,aQ]
   refine tk 11 (v:=?v11) rfl (by kernel_rfl) (fun _ _ _ h=>h) (by assumption) rfl ?hy11 ?_
   case hy11=>intro _ h;(try dsimp only at h);go_simp;try with_reducible rfl
   try simp only[Act.put,aS,aR,aQ]
   refine tk 12 (v:=?v12) rfl (by kernel_rfl) (fun _ _ _ h=>h) (by assumption) rfl ?hy12 ?_
   case hy12=>intro _ h;(try dsimp only at h);go_simp;try with_reducible rfl
   try simp only[Act.put,aS,aR,aQ]
   refine wpAnyH_ready (rs:=[13]) (by kernel_rfl) (by simp) ?_
   refine AllReadyH.cons rfl (fun K' hK=>?_) AllReadyH.nil
   go_simp
   refine hK.out _ _ ⟨g0,g1,g2,g3,g4,g5⟩ (fun hHeld2=>?_)
   clear hK K' hHeld
   have hHeld:=hHeld2
   clear hHeld2
   try simp only[Act.put,aS,aR,aQ]
   refine wpAnyH_ready (rs:=[14]) (by kernel_rfl) (by simp) ?_
   refine AllReadyH.cons rfl (fun K' hK=>?_) AllReadyH.nil
   go_simp
   refine HGV.out.mono ?_
   rintro q w3 ⟨rfl,hq⟩
   have hq2:ae (ao b) W w3:=⟨hq.2.os,hq.2.tape,hq.2.output,hq.2.size,hq.2.block⟩
   have kk:=HKW.out.trans' hq2 (fun i e=>Or.inl e)
   obtain⟨e0,e1,e2,e3,e4,e5,-⟩:=HSK2.out w3 ⟨kk.os,kk.tape,kk.output,kk.size,kk.block⟩
   try go_wp2_with fail
   refine hK.out _ _ ⟨e0,e1,e2,e3,e4,e5⟩ (fun hHeld2=>?_)
   clear hK K' hHeld
   have hHeld:=hHeld2
   clear hHeld2
   try simp only[Act.put,aS,aR,aQ]
   refine wpAnyH_done (by kernel_rfl) ?_ _
   clear hHeld
   have hWl:w0.heap.size≤W.heap.size:=by have:=HKW.out.size;have:=HKD.out.size;omega
   exact⟨bY hq2 (by omega),cn hq2 hbb hWl,by rw[HLN.out];exact hq.1,kk⟩
  case done=>
   rintro Dn ys W hD rfl ⟨hbW,hkW⟩ hK
   have HBF:=aa hbW
   have HKF:=aa hkW
   clear hbW hkW
   gi_wp2
   refine⟨by simp,.inl ⟨_,_,rfl,run_takeDeferred hK,?_⟩⟩
   refine⟨_,results_none rfl _ _ _,rfl,?_,?_⟩
   ·rw[←cF]
    exact(cU (β:=Unit) (A:=fun _=>_) (B:=W2.heap.size) (by omega)) () _ _ _ HBF.out (grownBy_putObj' W Dn _) (fun r e=>by cases e;exact⟨hD,_,hK,rfl⟩)
   ·exact(ae.of_below (S:=ao b) HKD.out).trans' (HKF.out.grown (grownBy_putObj' W Dn _) (fun r e=>by cases e;exact Or.inr (by omega))) (fun i e=>Or.inl e)
  case stop=>
   rintro Dn c pre W _ _ h _
   exact h.elim
end
end Go.Proofs.YtmdaflepdaiabaaGreatDoor
