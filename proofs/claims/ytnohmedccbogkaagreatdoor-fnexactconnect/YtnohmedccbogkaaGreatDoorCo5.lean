import Derived.Test.YtnohmedccbogkaaGreatDoorCo4
namespace Go.Proofs.YtnohmedccbogkaaGreatDoor
open Go.Proofs.Tryz
open Go.ChangeShapes Go.WideShapes Go.ChangeAt Go.RowKit Go.Joins Go.Deep
set_option maxRecDepth 100000
set_option maxHeartbeats 32000000
theorem GY:prog.cellsOf 29=6:=kO
theorem GZ:prog.cellsOf 27=4:=kO
theorem G0{cs:Array Value}(h:cs.size=6):∃a b c d e f,cs=#[a,b,c,d,e,f]:=by
 obtain⟨l⟩:=cs
 match l,h with
 |[a,b,c,d,e,f],_=>exact⟨a,b,c,d,e,f,rfl⟩
section
variable {H:Type} {enc:TypeId×Value->H} {W:World}
theorem G4{r J v d p}(R:Value.okWide prog W r J 29 v)(h:DataW.Trod enc prog W 0 (fun _=>true) true 29 v d p):
 ∃s K g r a2 f,v= .agg (stV s K g r a2 f).toArray/\RDisk W s K:=by
 obtain⟨cs,rfl,z⟩:=okWide_struct underlying29 R;obtain⟨b,c,i,j,l,o,rfl⟩:=G0 (z.trans GY);obtain⟨L,O⟩:=h;obtain⟨G,H,n,_,_,M,N⟩:=trod_struct2 underlying29 O;have x:DataW.trod enc prog W 0 (fun _=>true) true n 25 [b,c]=some G:=by
  have e:=GS;have a:DataW.trod enc prog W 0 (fun _=>true) true n 25 (([b,c,i,j,l,o].drop 0).take (prog.cellsOf 25))=some G:=M;rw[e]at a;exact a
 have y:DataW.trod enc prog W 0 (fun _=>true) true n 27 [i,j,l,o]=some H:=by
  have a:DataW.trod enc prog W 0 (fun _=>true) true n 27 (([b,c,i,j,l,o].drop 2).take (prog.cellsOf 27))=some H:=N;rw[GZ]at a;exact a
 obtain⟨aO,aX,m,_,_,k0,X⟩:=trod_struct2 underlying25 x;have E:DataW.trod enc prog W 0 (fun _=>true) true m 22 [b]=some aO:=k0;have F:DataW.trod enc prog W 0 (fun _=>true) true m 23 [c]=some aX:=X;obtain⟨ah,Y,ai,ae,ag,af,a1,rfl,Q⟩:=GV E;obtain⟨ad,k,pc,I,Z,ac,ab,a0,rfl,P⟩:=GX F;obtain⟨ap,ar,aw,aH,q,_,_,S,T,U,V⟩:=trod_struct4 underlying27 y;have A:DataW.trod enc prog W 0 (fun _=>true) true q 3 [i]=some ap:=S;have B:DataW.trod enc prog W 0 (fun _=>true) true q 3 [j]=some ar:=T;have C:DataW.trod enc prog W 0 (fun _=>true) true q 3 [l]=some aw:=U;have D:DataW.trod enc prog W 0 (fun _=>true) true q 3 [o]=some aH:=V;obtain⟨t0,e0,_,_⟩:=DataW.trod_int r7 A;obtain⟨ak,t,_,_⟩:=DataW.trod_int r7 B;obtain⟨am,u,_,_⟩:=DataW.trod_int r7 C;obtain⟨an,w,_,_⟩:=DataW.trod_int r7 D;simp at e0 t u w;subst e0 t u w;exact⟨⟨ah,ai,ae,ag,af,ad,pc,Z,ac,ab⟩,⟨Y,a1,k,I,a0⟩,t0,ak,am,an,rfl,⟨Q,P⟩⟩
end
