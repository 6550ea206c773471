import Derived.Test.YtglbanolhhjjiaaGreatDoorFo41
namespace Go.Proofs.YtglbanolhhjjiaaGreatDoor
open Go.RowKit
set_option linter.unusedVariables false
set_option maxRecDepth 100000
set_option maxHeartbeats 32000000
section
variable {B0 g:Nat} {rest:List Value} {rt:Int} {w:World} {ns:List NdK} {nv:Nat->NdV} {na:Option Addr} {nc:Nat}
theorem ChP.mono{d a r e w'}(h:ChP B0 g rest na w ns d r e w')(l:d<=a):ChP B0 g rest na w ns a r e w':=by
 obtain⟨c,b,ms,f,i,j,k⟩:=h;exact⟨c,b,ms,f,i,j,uA⟩
theorem Hi(b:USt B0 g rest rt w ns nv na nc){o}(a:UO ns rt o)(j:ns.length+dpO o<=1048572){k v}(d)(i:eOk (k,v)):
 Calls Tryz.prog 98 #[.pointer (some ⟨g,0,none⟩),.agg (fH k v d)] w fun e w'=>ChP B0 g rest na w ns (dpO o+2) (chg k v d o) e w':=by
 have p:ns.length<=1048572:=uA;cases d with
 |true=>
  cases o with
  |none=>
   refine(yr b a uA k v rfl).mono ?_;rintro e w' ⟨rfl,c⟩;exact⟨rfl,rt,ns,⟨nv,na,nc,b.below c,OnlyS.ofBelow c,v7 rfl⟩,a,t6,uA⟩
  |some x=>
   obtain⟨n,t⟩:=x;have m:dpO (some (n,t))=n:=rfl;rw[m]at j ⊢;cases f:eP k n t with
   |false=>
    refine(yr b a uA k v f).mono ?_;rintro e w' ⟨rfl,c⟩;have l:chg k v true (some (n,t))=(some (n,t),false):=by rw[chg];simp only[if_true];rw[CH (by rw[f];decide)]
    rw[l];exact⟨rfl,rt,ns,⟨nv,na,nc,b.below c,OnlyS.ofBelow c,v7 rfl⟩,a,t6,uA⟩
   |true=>
    refine(Hf b a uA k v f).mono ?_;intro e w' h;have l:chg k v true (some (n,t))=(if bare (bN k n t)then none else some (dM n (bN k n t)),true):=by rw[chg];simp only[if_true];rw[B4 f]
    rw[l];exact h.mono uA
 |false=>
  cases o with
  |none=>
   have e:rt= -1:=a;subst e;refine(Hg b uA i).mono ?_;intro e w' h;exact ChP.mono (r:=(some (0,.leaf 0 [(k,v)]),true)) h uA
  |some x=>
   obtain⟨n,t⟩:=x;have m:dpO (some (n,t))=n:=rfl;rw[m]at j ⊢;exact Hh b a uA i
end
