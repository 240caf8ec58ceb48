import Derived.Test.YtajfbbldaiaolaaGreatDoorQ12
import Derived.Test.YtajfbbldaiaolaaGreatDoorQ15
set_option linter.unusedSimpArgs false
set_option linter.unusedVariables false
namespace Go.Proofs.YtajfbbldaiaolaaGreatDoor
open Go.RowKit Go.Maps Go.Shelf
def Hb(y:Fl):Pg:=⟨y.main,y.begins,y.stmts⟩
theorem Ej{w:World}{a:Nat}{y:Fl}(h:nH w a y)(O:y.begins.length≠0)(N:y.stmts.length≠0):tX w w.heap.size a (Hb y):=by
 obtain⟨V,R,D,hg,M⟩:=h.ex
 obtain⟨F,S,A,E⟩:=M.ex
 obtain⟨g,c,rfl⟩:=aO hg O
 obtain⟨P,Q,rfl⟩:=aO A N
 refine⟨D.lt,D.cell 1,g,c,P,Q,(dN hg rfl).2.1,(dN A rfl).2.1,D.cell 0,fun i p e=>cZ hg (by rw[List.getElem?_map,show y.begins[i]?=some p from e];rfl),D.cell 3,fun j s e=>?_⟩
 have e:y.stmts[j]?=some s:=e
 have T:=(List.getElem?_eq_some_iff.1 e).1
 obtain⟨b,B⟩:∃b,F[j]?=some b:=⟨_,List.getElem?_eq_getElem (by omega)⟩
 obtain⟨sr,sb,H,G⟩:=E j b s B e
 have J:(F.zip y.stmts)[j]?=some (b,s):=by rw[List.getElem?_zip_eq_some];exact⟨B,e⟩
 have C:∀k,k< 4->(kn (F.zip y.stmts))[j*4+k]?=(ui (b,s))[k]?:=fun k K=>tE _ j _ J k K
 exact⟨b,cZ A (by have:=C 0 (by omega);simpa[ui]using this),cZ A (by have:=C 1 (by omega);simpa[ui]using this),cZ A (by have:=C 2 (by omega);simpa[ui]using this),cZ A (by have:=C 3 (by omega);simpa[ui]using this),H.lt,sr,sb,H,G,fun i L=>(dN G L).2.1⟩
end Go.Proofs.YtajfbbldaiaolaaGreatDoor
