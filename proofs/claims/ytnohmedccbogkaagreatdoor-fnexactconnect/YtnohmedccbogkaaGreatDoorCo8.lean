import Derived.Test.YtnohmedccbogkaaGreatDoorCo7
namespace Go.Proofs.YtnohmedccbogkaaGreatDoor
open Go.Proofs.Tryz
open Go.RowKit
set_option linter.unusedVariables false
set_option maxRecDepth 100000
set_option maxHeartbeats 32000000
def dY(id0:Int)(rest:List (ByteArray×Int)):NdK:=⟨0,false,[],[],id0::rest.map (·.2),rest.map (·.1)⟩
def inK(ls:List (ByteArray×Int)):NdK:=⟨0,false,[],[],ls.map (·.2),ls.tail.map (·.1)⟩
theorem Iq(s a rest):inK ((s,a)::rest)=dY a rest:=by simp[inK,dY]
theorem Ir(a n c l w)(h:Bs w a n c l)(cr:n<=1048576):
 Calls prog 205 #[.slice a n c] w fun e w'=> ∃v K bH,e= .returned (.tuple #[.agg (ndc v K).toArray,.bool bH])/\Below w.1.size w w'/\ONd w.1.size w' v K/\
  ((bH=true/\∃ls,inP l=some ls/\K=inK ls)\/(bH=false/\inP l=none)):=by
 have ag:=h.len_eq;have R:Hid (∀A,Below w.1.size w A->Bs A a n c l):=fun A b=>h.below b;have b4:=h.byte;have ch:=h.le;have b6:=h.le';unfold maxLen at b6;have cb:=(ao w 257 (ndc bX ⟨0,false,[],[],[],[]⟩).toArray).below (kF.alloc kE (.cells (ndc bX ⟨0,false,[],[],[],[]⟩).toArray 257));have bN:=ao (w.alloc (.cells (ndc bX ⟨0,false,[],[],[],[]⟩).toArray 257)) 257 (ndc bX ⟨0,false,[],[],[],[]⟩).toArray;have cd:(w.alloc (.cells (ndc bX ⟨0,false,[],[],[],[]⟩).toArray 257)).1.size=w.1.size+1:=by simp
 rw[cd]at bN;have af:LS w (w.1.size+1) bX ⟨0,false,[],[],[],[]⟩ ((w.alloc (.cells (ndc bX ⟨0,false,[],[],[],[]⟩).toArray 257)).alloc (.cells (ndc bX ⟨0,false,[],[],[],[]⟩).toArray 257)):=
  ⟨eT w _ _,cb,bN,kH,xE _ _ _ _,fun _ e=>by cases e⟩
 have d:Hid _:=af;clear af cb bN cd h;go_enter func205,ntmps205;go_upto_region 2 with fail
 change Code.wp _ _ _ _ ((w.alloc (.cells (ndc bX ⟨0,false,[],[],[],[]⟩).toArray 257)).alloc (.cells (ndc bX ⟨0,false,[],[],[],[]⟩).toArray 257));generalize (w.alloc (.cells (ndc bX ⟨0,false,[],[],[],[]⟩).toArray 257)).alloc (.cells (ndc bX ⟨0,false,[],[],[],[]⟩).toArray 257)=bE at*;generalize ca:w.1.size+1=m at*;clear ca;by_cases co:(n:Int)<4
 ·obtain⟨v,ap⟩:∃v,v=bX:=⟨_,rfl⟩;rw[<-ap]at d;clear ap;have B:inP l=none:=by unfold inP;rw[q4 kH]
  have N:Hid _:=B;clear B;have ai:=d.out.blk;have M:=d.out.res;have ah:=M.setRow (ndc v ⟨0,false,[],[],[],[]⟩);go_wp2_with (first|(refine qi rfl 257 _ rfl m rfl 257 (ndc v ⟨0,false,[],[],[],[]⟩).toArray (0,0) _ ai q8 rfl bM ?_)|(refine qB rfl 257 _ _ rfl w.1.size (ndc v ⟨0,false,[],[],[],[]⟩).toArray rfl rfl 257 _ M bM rfl (fT _ _) ?_));refine p6 (v:= .tuple #[.agg (ndc v ⟨0,false,[],[],[],[]⟩).toArray,.bool false]) ?_ rfl ⟨v,⟨0,false,[],[],[],[]⟩,false,rfl,d.out.fin.1,d.out.fin.2,kT ⟨rfl,N.out⟩⟩;exact bA results205 _ _ w.1.size 257 (ndc v ⟨0,false,[],[],[],[]⟩).toArray _ rfl ah q8 rfl bM rfl
 have b2:4<=n:=kH;obtain⟨b,off,rfl,_,_⟩:=(R.out bE d.out.bel).at_ kH;have S:Hid (∀A,Below w.1.size w A->Calls prog 80 #[.slice (some ⟨b,off,none⟩) 4 c] A fun e w'=>e= .returned (.int .i64 (low (l.take 4)))/\w'=A):=fun A C=>by
  have:=(R.out A C).piece 0 4 kH c kH (by unfold maxLen;omega);rw[m2,List.drop_zero]at this;exact iR _ 4 _ _ A this kH
 obtain⟨f,bc⟩:∃x,low (l.take 4)=x:=⟨_,rfl⟩;rw[bc]at S;have bR:Hid _:=bc;clear bc;go_upto_region 4 with fail
 obtain⟨o,H⟩:∃o:List Int,o=[]:=⟨_,rfl⟩;have am:o.length<=4:=by rw[H];exact kX _
 rw[show(⟨0,false,[],[],[],[]⟩:NdK)=⟨0,false,[],[],o,[]⟩by rw[H]]at d;have bP:Hid _:=H;clear H;have V:(4:Int)<=(c:Int):=kH;have bt:=bDr bE;have q:=d.out.below bt;refine ay (fun A=>A.cell? ⟨m,4,none⟩=some (.slice none o.length 0)) (fun k=>decide (6<=k)) kO ?_;generalize bE.drew=E at*;have cs:E.cell? ⟨m,4,none⟩=some (.slice none o.length 0):=q.blk.cell 4;have aw:=S.out E q.bel;have ac:=bAl E (.cells #[.int .i64 f] 3);have u:=q.below ac;have U:(E.alloc (.cells #[.int .i64 f] 3)).cell? ⟨m,4,none⟩=some (.slice none o.length 0):=u.blk.cell 4;clear d bt;have d:Hid _:=q;have y:Hid _:=u;clear q u ac;refine aa 0 cs ?_;refine aa 1 cs ?_;refine aa 2 cs ?_;refine aC 3 (.slice (some ⟨b,off,none⟩) 4 c) cs ?hya3 ?_
 case hya3=>(intro w W;(try dsimp only at W);go_simp;first|done|(intro hx;exfalso;omega)|(rw[qb kH]))
 refine aj 4 fun p g=> ?_;go_wp2_with fail;refine aw.mono ?_;rintro e A ⟨rfl,C⟩;obtain rfl:=C.symm;clear C aw;go_wp2_with fail;refine al g ?_;clear g p;refine aj 5 fun p g=> ?_;refine fj _ _ _ rfl (v:= .slice (some ⟨E.1.size,0,none⟩) 1 1) (w':=E.alloc (.cells #[.int .i64 f] 3)) ?bsa ?_
 case bsa=>
  simp only[k9,k4,k7];exact mr ig (.int .i64 f) rfl E
 refine al g ?_;clear g p;refine aj 6 fun p g=> ?_;refine lm _ _ ig rfl (m+1) none o.length 0 (on o) rfl d.out.own.kids (.int .i64 f) rfl rfl (by first|omega|(show 0<=1048576;omega)) kH d.out.blk.lt ?_;intro a9 aX bg Z J G T;refine al g ?_;clear g p;have ab:Own1 3 (m+1) bg (some ⟨a9,0,none⟩) (o++[f]).length aX (on (o++[f])):=by rw[kY,<-iU];exact Z
 have Y:KeepT 9 (E.alloc (.cells #[.int .i64 f] 3)) bg:=bJ y.out.own.kids G kN;have I:=d.out.put (v':=⟨none,0,none,0,some ⟨a9,0,none⟩,aX,none,0⟩) (K':=⟨0,false,[],[],o++[f],[]⟩) J 4 (.slice (some ⟨a9,0,none⟩) (o.length+1) aX) (by first|(simp[ndc];done)|simp[ndc,bX]) ⟨ew _ _ _,ew _ _ _,ab,y.out.own.signs.keep Y⟩ (fun _ e=>by cases e);have L:Blk bg 257 m _:=(J.block m (n4 _)).trans d.out.blk;have aO:bg.cell? ⟨m,4,none⟩=some (.slice none o.length 0):=L.cell 4;have a0:=L.free 4;clear d y;have d:Hid _:=I;clear I L Z J G T ab Y U;refine aj 7 fun p g=> ?_;go_wp2_with fail;refine al g ?_;clear g p;refine aj 8 fun p g=> ?_;go_wp2_with fail;refine al g ?_;clear g p;refine ax ?_;clear aO a0 cs;clear V S;generalize bg.setCell ⟨m,4,none⟩ (.slice (some ⟨a9,0,none⟩) (o.length+1) aX)=cl at*;rw[bP.out,m7]at d;go_wp2_with fail;go_loopw [5] (fun i wr=> ∃(j:Nat)(P ad:Option Addr)(Q ae:Nat)(rest:List (ByteArray×Int)),j<=n/\i= .int .i64 (j:Nat)/\rest.length<=j/\lnP (l.drop 4)=(lnP (l.drop j)).map (rest++ ·)/\LS w m ⟨none,0,none,0,P,Q,ad,ae⟩ (dY f rest) wr) (fun i _=>n-(intOf i).toNat)
 case atStart=>exact⟨4,some ⟨a9,0,none⟩,none,aX,0,[],b2,rfl,kX _,kP,d.out⟩
 case round=>
  clear d;obtain⟨j,P,ad,Q,ae,rest,cq,rfl,b7,bd,af⟩:=hrel;obtain⟨v,ap⟩:∃v:NdV,v=⟨none,0,none,0,P,Q,ad,ae⟩:=⟨_,rfl⟩;rw[<-ap]at af;have cf:Hid _:=ap;clear ap;obtain⟨bn,rfl⟩:∃x,x=wr:=⟨_,rfl⟩;have O:Hid _:=bd;have d:Hid _:=af;clear bd;by_cases b9:j<n
  ·have bF:(j:Int)< (n:Int):=kH;have aH:=R.out bn af.bel;obtain⟨_,_,bj,_,b5⟩:=aH.at_ kH;cases bj;have ce:Hid _:=aH;clear af aH;obtain⟨k,b8,ci⟩:=sF b4 j;have bY:=b5 j b9;rw[b8]at bY;have b0:lfK (l.drop j)=k:=by unfold lfK;rw[sE,m2,b8];rfl
   have ar:Hid _:=b0;clear b0 b5;have am:(l.drop j).length=n-j:=by rw[k3,ag]
   have ak:Hid _:=am;clear am;go_upto_region 9 with fail
   clear bY;by_cases cp:j+5+k<=n
   ·have b3:(j:Int)+5+(k:Int)<=(n:Int):=kH;have cg:=lN ce.out (j+1) k kH (c-(j+1)) kH (by unfold maxLen;omega);have bS:=xF (strOfNums ((l.drop (j+1)).take k)) (by rw[rg,lw];omega) bn;generalize bb:strOfNums ((l.drop (j+1)).take k)=s at*;go_wp2_with fail;refine bS.mono ?_;rintro e A ⟨rfl,C⟩;obtain rfl:=C.symm;have bx:s.size=k:=by rw[<-bb,rg,lw,k3,ag];omega
    rw[bx];have bs:Hid _:=bb;clear bS C bb bx;by_cases g:1<=k/\k<=40
    ·rw[q6 g];have bf:=iP.2 (by rw[ar.out,ak.out];omega);have bj:ez (l.drop j)=s:=by rw[<-bs.out];unfold ez;rw[ar.out,m0]
     have B:lnP (l.drop 4)=(lnP (l.drop (j+5+k))).map ((rest++[(s,fg (l.drop (j+1+k)))])++ ·):=by
      rw[O.out,mv bf,bj,ar.out,m0,m0,show j+(5+k)=j+5+k by omega,show j+(1+k)=j+1+k by omega,Option.map_map];congr 1;funext r;simp
     have N:Hid _:=B;have bp:Hid (∀A,Below w.1.size w A->(convert 70 9 (.slice (some ⟨b,off+(j+1),none⟩) k (c-(j+1)))).run prog A= .ok (.string s) A):=fun A C=>by
      rw[<-bs.out];exact lN (R.out A C) (j+1) k kH (c-(j+1)) kH (by unfold maxLen;omega)
     have S:Hid (∀A,Below w.1.size w A->Calls prog 80 #[.slice (some ⟨b,off+(j+1+k),none⟩) 4 (c-(j+1+k))] A fun e w'=>e= .returned (.int .i64 (fg (l.drop (j+1+k))))/\w'=A):=fun A C=>iR _ 4 _ _ A ((R.out A C).piece (j+1+k) 4 kH (c-(j+1+k)) kH (by unfold maxLen;omega)) kH;clear bf bj B cg;generalize fg (l.drop (j+1+k))=t at*;rw[cf.out]at d;have bw:dY f rest=⟨0,false,[],[],f::rest.map (·.2),rest.map (·.1)⟩:=rfl;rw[bw]at d;generalize H:f::rest.map (·.2)=o at*;generalize be:rest.map (·.1)=D at*;have bq:=kG H be;have am:o.length<=j+1:=by rw[<-H,m1,oR];omega
     have ck:D.length<=j:=by rw[<-be,oR];exact b7
     clear H be bw;go_upto_region 11 with fail
     have a1:IntKind.i64.wrap ((j:Int)+1)=(j:Int)+1:=by simp[IntKind.wrap,IntKind.bits,IntKind.signed];omega
     have a2:IntKind.i64.wrap ((j:Int)+1+(k:Int))=(j:Int)+1+(k:Int):=by simp[IntKind.wrap,IntKind.bits,IntKind.signed];omega
     have a3:(0:Int)<=(j:Int)+1+(k:Int):=kH;have V:(j:Int)+1+(k:Int)<=(c:Int):=kH;have a4:(0:Int)<=(j:Int)+1:=kH;have a5:((j:Int)+1+(k:Int)).toNat=j+1+k:=kH;have a6:((j:Int)+1).toNat=j+1:=kH;have a7:¬c=j+1:=kH;have a8:(j:Int)+1<=max ((j:Int)+1+(k:Int)) 0:=kH;have bu:=bDr bn;have q:=d.out.below bu;refine ay (fun A=>A.cell? ⟨m,5,none⟩=some (.slice ad D.length ae)/\(convert 70 9 (.slice (some ⟨b,off+(j+1),none⟩) k (c-(j+1)))).run prog A= .ok (.string s) A) (fun k=>decide (12<=k)) kO ?_;generalize bn.drew=z at*;have cs:z.cell? ⟨m,5,none⟩=some (.slice ad D.length ae)/\(convert 70 9 (.slice (some ⟨b,off+(j+1),none⟩) k (c-(j+1)))).run prog z= .ok (.string s) z:=⟨q.blk.cell 5,bp.out _ q.bel⟩;have ac:=bAl z (.cells #[.string s] 9);have u:=q.below ac;have U:(z.alloc (.cells #[.string s] 9)).cell? ⟨m,5,none⟩=some (.slice ad D.length ae)/\(convert 70 9 (.slice (some ⟨b,off+(j+1),none⟩) k (c-(j+1)))).run prog (z.alloc (.cells #[.string s] 9))= .ok (.string s) (z.alloc (.cells #[.string s] 9)):=⟨u.blk.cell 5,bp.out _ u.bel⟩;clear d bu;have d:Hid _:=q;have y:Hid _:=u;clear q u ac;refine aY 0 cs ?_;refine aY 1 cs ?_;refine aY 2 cs ?_;refine aY 3 cs ?_;refine aY 4 cs ?_;refine aY 5 cs ?_;refine aY 6 cs ?_;refine aY 7 cs ?_;refine aY 8 cs ?_;refine aC 9 (.slice (some ⟨b,off+(j+1),none⟩) k (c-(j+1))) cs ?hyp9 ?_
     case hyp9=>(intro w W;obtain⟨cm,cn⟩:=W;go_simp;first|done|(intro hx;exfalso;omega))
     refine aY 10 cs ?_;refine aj 11 fun p g=> ?_;refine fj _ _ _ rfl (v:= .slice (some ⟨z.1.size,0,none⟩) 1 1) (w':=(z.alloc (.cells #[.string s] 9))) ?bsp ?_
     case bsp=>
      simp only[k9,k4,k7];exact mr lL (.string s) rfl z
     refine al g ?_;clear g p;refine aj 12 fun p g=> ?_;refine lm _ _ lL rfl (m+1) ad D.length ae (os D) rfl d.out.own.signs (.string s) rfl rfl kH kH d.out.blk.lt ?_;intro ba an bh Z J G T;refine al g ?_;clear g p;have ab:Own1 9 (m+1) bh (some ⟨ba,0,none⟩) (D++[s]).length an (os (D++[s])):=by rw[kY,<-sy];exact Z
     have Y:KeepT 3 (z.alloc (.cells #[.string s] 9)) bh:=bJ y.out.own.signs G kN;have I:=d.out.put (v':=⟨none,0,none,0,P,Q,some ⟨ba,0,none⟩,an⟩) (K':=⟨0,false,[],[],o,D++[s]⟩) J 5 (.slice (some ⟨ba,0,none⟩) (D.length+1) an) (by simp[ndc]) ⟨ew _ _ _,ew _ _ _,y.out.own.kids.keep Y,ab⟩ (fun _ e=>by cases e);have L:Blk bh 257 m _:=(J.block m (n4 _)).trans d.out.blk;have aO:bh.cell? ⟨m,5,none⟩=some (.slice ad D.length ae):=L.cell 5;have a0:=L.free 5;clear d y;have d:Hid _:=I;clear I L Z J G T ab Y U;refine aj 13 fun p g=> ?_;go_wp2_with fail;refine al g ?_;clear g p;refine aj 14 fun p g=> ?_;go_wp2_with fail;refine al g ?_;clear g p;refine ax ?_;clear aO a0 cs a1 a2 a3 V a4 a5 a6 a7 a8;go_upto_region 12 with fail
     generalize bh.setCell ⟨m,5,none⟩ (.slice (some ⟨ba,0,none⟩) (D.length+1) an)=cc at*;generalize (some ⟨ba,0,none⟩:Option Addr)=bz at*;have a1:IntKind.i64.wrap ((j:Int)+1)=(j:Int)+1:=by simp[IntKind.wrap,IntKind.bits,IntKind.signed];omega
     have a2:IntKind.i64.wrap ((j:Int)+1+(k:Int))=(j:Int)+1+(k:Int):=by simp[IntKind.wrap,IntKind.bits,IntKind.signed];omega
     have a3:(0:Int)<=(j:Int)+5+(k:Int):=kH;have V:(j:Int)+5+(k:Int)<=(c:Int):=kH;have a4:(0:Int)<=(j:Int)+1+(k:Int):=kH;have a5:((j:Int)+5+(k:Int)).toNat=j+5+k:=kH;have a6:((j:Int)+1+(k:Int)).toNat=j+1+k:=kH;have a7:¬c=j+1+k:=kH;have a8:(j:Int)+1+(k:Int)<=max ((j:Int)+5+(k:Int)) 0:=kH;have b1:j+5+k-(j+1+k)=4:=kH;have bv:=bDr cc;have q:=d.out.below bv;refine ay (fun A=>A.cell? ⟨m,4,none⟩=some (.slice P o.length Q)) (fun k=>decide (11<=k)) kO ?_;generalize cc.drew=F at*;have cs:F.cell? ⟨m,4,none⟩=some (.slice P o.length Q):=q.blk.cell 4;have aw:=S.out F q.bel;have ac:=bAl F (.cells #[.int .i64 t] 3);have u:=q.below ac;have U:(F.alloc (.cells #[.int .i64 t] 3)).cell? ⟨m,4,none⟩=some (.slice P o.length Q):=u.blk.cell 4;clear d bv;have d:Hid _:=q;have y:Hid _:=u;clear q u ac;refine aa 0 cs ?_;refine aa 1 cs ?_;refine aa 2 cs ?_;refine aa 3 cs ?_;refine aa 4 cs ?_;refine aa 5 cs ?_;refine aa 6 cs ?_;refine aa 7 cs ?_;refine aC 8 (.slice (some ⟨b,off+(j+1+k),none⟩) 4 (c-(j+1+k))) cs ?hyq8 ?_
     case hyq8=>(intro w W;(try dsimp only at W);go_simp;first|done|(intro hx;exfalso;omega)|(rw[qb kH]))
     refine aj 9 fun p g=> ?_;go_wp2_with fail;refine aw.mono ?_;rintro e A ⟨rfl,C⟩;obtain rfl:=C.symm;clear C aw;go_wp2_with fail;refine al g ?_;clear g p;refine aj 10 fun p g=> ?_;refine fj _ _ _ rfl (v:= .slice (some ⟨F.1.size,0,none⟩) 1 1) (w':=F.alloc (.cells #[.int .i64 t] 3)) ?bsq ?_
     case bsq=>
      simp only[k9,k4,k7];exact mr ig (.int .i64 t) rfl F
     refine al g ?_;clear g p;refine aj 11 fun p g=> ?_;refine lm _ _ ig rfl (m+1) P o.length Q (on o) rfl d.out.own.kids (.int .i64 t) rfl rfl (by first|omega|(show 0<=1048576;omega)) kH d.out.blk.lt ?_;intro bk bi bl Z J G T;refine al g ?_;clear g p;have ab:Own1 3 (m+1) bl (some ⟨bk,0,none⟩) (o++[t]).length bi (on (o++[t])):=by rw[kY,<-iU];exact Z
     have Y:KeepT 9 (F.alloc (.cells #[.int .i64 t] 3)) bl:=bJ y.out.own.kids G kN;have I:=d.out.put (v':=⟨none,0,none,0,some ⟨bk,0,none⟩,bi,bz,an⟩) (K':=⟨0,false,[],[],o++[t],D++[s]⟩) J 4 (.slice (some ⟨bk,0,none⟩) (o.length+1) bi) (by first|(simp[ndc];done)|simp[ndc,bX]) ⟨ew _ _ _,ew _ _ _,ab,y.out.own.signs.keep Y⟩ (fun _ e=>by cases e);have L:Blk bl 257 m _:=(J.block m (n4 _)).trans d.out.blk;have aO:bl.cell? ⟨m,4,none⟩=some (.slice P o.length Q):=L.cell 4;have a0:=L.free 4;clear d y;have d:Hid _:=I;clear I L Z J G T ab Y U;refine aj 12 fun p g=> ?_;go_wp2_with fail;refine al g ?_;clear g p;refine aj 13 fun p g=> ?_;go_wp2_with fail;refine al g ?_;clear g p;refine ax ?_;clear aO a0 cs;clear a1 a2 a3 V a4 a5 a6 a7 a8 b1;go_wp2;go_roundw
     case rel=>
      refine⟨j+5+k,some ⟨bk,0,none⟩,bz,bi,an,rest++[(s,t)],kH,by go_num,by rw[kY];show rest.length+1<=_;omega,N.out,?_⟩;have e:dY f (rest++[(s,t)])=⟨0,false,[],[],o++[t],D++[s]⟩:=by rw[<-bq.out.1,<-bq.out.2];simp[dY]
      rw[e];exact d.out
     case measure=>simp[intOf];omega
    ·rw[q5 g];have X:fN (l.drop j)=false:=by
      cases h:fN (l.drop j)with
      |false=>rfl
      |true=>
       have:=iP.1 h;rw[ar.out]at this;exact absurd ⟨this.1,this.2.1⟩ g
     have B:inP l=none:=by unfold inP;rw[qb kH,O.out,lr (by rw[ak.out];omega) X];rfl
     have N:Hid _:=B;clear B X;have ai:=d.out.blk;have M:=d.out.res;have ah:=M.setRow (ndc v (dY f rest));go_wp2_with (first|(refine qi rfl 257 _ rfl m rfl 257 (ndc v (dY f rest)).toArray (0,0) _ ai q8 rfl bM ?_)|(refine qB rfl 257 _ _ rfl w.1.size (ndc v (dY f rest)).toArray rfl rfl 257 _ M bM rfl (fT _ _) ?_));refine p6 (v:= .tuple #[.agg (ndc v (dY f rest)).toArray,.bool false]) ?_ rfl ⟨v,(dY f rest),false,rfl,d.out.fin.1,d.out.fin.2,kT ⟨rfl,N.out⟩⟩;exact bA results205 _ _ w.1.size 257 (ndc v (dY f rest)).toArray _ rfl ah q8 rfl bM rfl
   ·have b3:(n:Int)< (j:Int)+5+(k:Int):=kH;have X:fN (l.drop j)=false:=by
     cases h:fN (l.drop j)with
     |false=>rfl
     |true=>
      have:=iP.1 h;rw[ar.out,ak.out]at this;omega
    have B:inP l=none:=by unfold inP;rw[qb kH,O.out,lr (by rw[ak.out];omega) X];rfl
    have N:Hid _:=B;clear B X;have ai:=d.out.blk;have M:=d.out.res;have ah:=M.setRow (ndc v (dY f rest));go_wp2_with (first|(refine qi rfl 257 _ rfl m rfl 257 (ndc v (dY f rest)).toArray (0,0) _ ai q8 rfl bM ?_)|(refine qB rfl 257 _ _ rfl w.1.size (ndc v (dY f rest)).toArray rfl rfl 257 _ M bM rfl (fT _ _) ?_));refine p6 (v:= .tuple #[.agg (ndc v (dY f rest)).toArray,.bool false]) ?_ rfl ⟨v,(dY f rest),false,rfl,d.out.fin.1,d.out.fin.2,kT ⟨rfl,N.out⟩⟩;exact bA results205 _ _ w.1.size 257 (ndc v (dY f rest)).toArray _ rfl ah q8 rfl bM rfl
  ·have e:j=n:=kH;subst e;have bF:¬(j:Int)< (j:Int):=kH;have B:inP l=some ((strOfNums [],f)::rest):=by
    unfold inP;rw[qb kH,O.out,jy (by rw[k3,ag];omega),<-bR.out];simp[fg]
   have N:Hid _:=B;clear B af;have ai:=d.out.blk;have M:=d.out.res;have ah:=M.setRow (ndc v (dY f rest));go_wp2_with (first|(refine qi rfl 257 _ rfl m rfl 257 (ndc v (dY f rest)).toArray (0,0) _ ai q8 rfl bM ?_)|(refine qB rfl 257 _ _ rfl w.1.size (ndc v (dY f rest)).toArray rfl rfl 257 _ M bM rfl (fT _ _) ?_));refine p6 (v:= .tuple #[.agg (ndc v (dY f rest)).toArray,.bool true]) ?_ rfl ⟨v,dY f rest,kT ⟨rfl,d.out.fin.1,d.out.fin.2,_,N.out,(Iq _ _ _).symm⟩⟩;exact bA results205 _ _ w.1.size 257 (ndc v (dY f rest)).toArray _ rfl ah q8 rfl bM rfl
