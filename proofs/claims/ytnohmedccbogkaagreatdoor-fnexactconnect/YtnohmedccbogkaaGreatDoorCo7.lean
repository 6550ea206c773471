import Derived.Test.YtnohmedccbogkaaGreatDoorCo2
namespace Go.Proofs.YtnohmedccbogkaaGreatDoor
open Go.Proofs.Tryz
open Go.RowKit
set_option linter.unusedVariables false
set_option maxRecDepth 100000
set_option maxHeartbeats 32000000
theorem lL:ElT 255 9 1 (.string (strOfNums [])) 16:=⟨underlying255,kO,rfl,kH⟩
theorem ig:ElT 119 3 1 (.int .i64 0) 8:=⟨sS,kO,rfl,kH⟩
def os(l:List ByteArray):List Value:=l.map Value.string
def on(l:List Int):List Value:=l.map (Value.int .i64)
theorem sy(l m):os l++os m=os (l++m):=by simp[os]
theorem iU(l m):on l++on m=on (l++m):=by simp[on]
theorem mR(l):(on l).length=l.length:=by simp[on]
theorem pi(l i)(h:i<l.length):(os l).getD i undef= .string (l.getD i (strOfNums [])):=by simp[os,List.getD,h]
theorem lM(l i)(h:i<l.length):(on l).getD i undef= .int .i64 (l.getD i 0):=by simp[on,List.getD,h]
theorem Hw(l i x):(on l).set i (.int .i64 x)=on (l.set i x):=by simp[on,List.map_set]
structure NdV where
 ka:Option Addr
 kc:Nat
 va:Option Addr
 vc:Nat
 da:Option Addr
 dc:Nat
 sa:Option Addr
 sc:Nat
structure NdK where
 page:Int
 leaf:Bool
 keys:List ByteArray
 vals:List ByteArray
 kids:List Int
 signs:List ByteArray
def ndc(v:NdV)(K:NdK):List Value:=[.int .i64 K.page,.bool K.leaf,.slice v.ka K.keys.length v.kc,.slice v.va K.vals.length v.vc,.slice v.da K.kids.length v.dc,.slice v.sa K.signs.length v.sc]
def bX:NdV:=⟨none,0,none,0,none,0,none,0⟩
structure ONd(B:Nat)(w:World)(v:NdV)(K:NdK):Prop where
 keys:Own1 9 B w v.ka K.keys.length v.kc (os K.keys)
 vals:Own1 9 B w v.va K.vals.length v.vc (os K.vals)
 kids:Own1 3 B w v.da K.kids.length v.dc (on K.kids)
 signs:Own1 9 B w v.sa K.signs.length v.sc (os K.signs)
theorem ONd.below{B w w' v K}(h:ONd B w v K)(a:Below w.1.size w w'):ONd B w' v K:=⟨h.keys.below a,h.vals.below a,h.kids.below a,h.signs.below a⟩
theorem ONd.mono{B b w v K}(h:ONd B w v K)(a:b<=B):ONd b w v K:=⟨h.keys.mono a,h.vals.mono a,h.kids.mono a,h.signs.mono a⟩
theorem ONd.keep{B w w' v K}(h:ONd B w v K)(a:KeepT 9 w w')(b:KeepT 3 w w'):ONd B w' v K:=⟨h.keys.keep a,h.vals.keep a,h.kids.keep b,h.signs.keep a⟩
theorem xE(B w p b):ONd B w bX ⟨p,b,[],[],[],[]⟩:=⟨ew _ _ _,ew _ _ _,ew _ _ _,ew _ _ _⟩
theorem bM:(prog.info? 257).map (·.size)=some 6:=kO
theorem fT(v K):(ndc v K).toArray.all (·.oneCell')=true:=by
 rw[pn];intro x hx;simp[ndc]at hx;rcases hx with rfl|rfl|rfl|rfl|rfl|rfl<;>rfl
theorem xF(s)(d:(s.size:Int)<1048576)(w):
 Calls prog 220 #[.string s] w fun e w'=>e= .returned (.bool (decide (1<=s.size/\s.size<=40)))/\w'=w:=by
 by_cases b:(1:Int)<=(s.size:Int)
 ·by_cases c:(s.size:Int)<=40
  ·have a:decide (1<=s.size/\s.size<=40)=true:=q6 kH;rw[a];clear a;go_enter func220,ntmps220;go_wp2;go_ret;exact⟨rfl,rfl⟩
  ·have a:decide (1<=s.size/\s.size<=40)=false:=q5 kH;rw[a];clear a;go_enter func220,ntmps220;go_wp2;go_ret;exact⟨rfl,rfl⟩
 ·have a:decide (1<=s.size/\s.size<=40)=false:=q5 kH;rw[a];clear a;go_enter func220,ntmps220;go_wp2;go_ret;exact⟨rfl,rfl⟩
structure LS(w:World)(tb:Nat)(v:NdV)(K:NdK)(wx:World):Prop where
 bel:Below w.1.size w wx
 res:Blk wx 257 w.1.size (ndc bX ⟨0,false,[],[],[],[]⟩)
 blk:Blk wx 257 tb (ndc v K)
 gt:w.1.size<tb
 own:ONd (tb+1) wx v K
 sep:∀g,v.ka=some ⟨g,0,none⟩->v.va≠some ⟨g,0,none⟩
theorem LS.below{w c v K b d}(h:LS w c v K b)(a:Below b.1.size b d):LS w c v K d:=
 ⟨h.bel.trans (a.mono h.bel.size),h.res.below a,h.blk.below a,h.gt,h.own.below a,h.sep⟩
theorem LS.put{w a v v' K K' l b}(h:LS w a v K l)(c:Below (a+1) l b)(i x)(e:(ndc v K).set i x=ndc v' K')(o:ONd (a+1) b v' K')(k:∀g,v'.ka=some ⟨g,0,none⟩->v'.va≠some ⟨g,0,none⟩):LS w a v' K' (b.setCell ⟨a,i,none⟩ x):=by
 have m:=h.gt;have q:=h.blk.lt;have p:=c.size;have d:=aB b a i x;have n:Blk b 257 w.1.size _:=(c.block _ kH).trans h.res;have f:Blk b 257 a (ndc v K):=(c.block _ kH).trans h.blk;have j:=f.set i x;rw[e]at j;exact⟨(h.bel.trans (c.mono kH)).trans (d.below kH kH),n.only d kH,j,m,o.keep (aV d f kN) (aV d f kN),k⟩
theorem LS.fin{w c v K a}(h:LS w c v K a):
 Below w.1.size w (a.setRow w.1.size (ndc v K).toArray)/\ONd w.1.size (a.setRow w.1.size (ndc v K).toArray) v K:=by
 have b:=aN a w.1.size (ndc v K).toArray;have d:=h.gt;have e:=h.bel.size;exact⟨h.bel.trans (b.below kE kH),(h.own.keep (aV b h.res kN) (aV b h.res kN)).mono kH⟩
def bD(es:List (ByteArray×ByteArray)):NdK:=⟨0,true,es.map (·.1),es.map (·.2),[],[]⟩
theorem sE(l:List Int)(j i):(l.drop j).getD i 0=l.getD (j+i) 0:=by simp[List.getD,List.getElem?_drop]
theorem sF{l}(h:IsB l)(i):∃k:Nat,l.getD i 0=(k:Int)/\k<256:=⟨(l.getD i 0).toNat,by have:=h i;omega,by have:=h i;omega⟩
theorem lN{w b off n c l}(h:Bs w (some ⟨b,off,none⟩) n c l)(i m)(f:i+m<=n)(a)(e:m<=a)(d:a<=maxLen):(convert 70 9 (.slice (some ⟨b,off+i,none⟩) m a)).run prog w= .ok (.string (strOfNums ((l.drop i).take m))) w:=aP (h.piece i m f a e d)
theorem xG(a n c l w)(h:Bs w a n c l)(cC:n<=1048576):
 Calls prog 204 #[.slice a n c] w fun e w'=> ∃v K bS,e= .returned (.tuple #[.agg (ndc v K).toArray,.bool bS])/\Below w.1.size w w'/\ONd w.1.size w' v K/\
  ((bS=true/\∃es,lfP l=some es/\es≠[]/\K=bD es)\/(bS=false/\(lfP l=none\/lfP l=some []))):=by
 have ab:=h.len_eq;have bi:Hid (∀C,Below w.1.size w C->Bs C a n c l):=fun C b=>h.below b;have bq:=h.byte;have cu:=h.le;have cc:=h.le';unfold maxLen at cc;have ck:=(ao w 257 (ndc bX ⟨0,false,[],[],[],[]⟩).toArray).below (kF.alloc kE (.cells (ndc bX ⟨0,true,[],[],[],[]⟩).toArray 257));have bY:=ao (w.alloc (.cells (ndc bX ⟨0,false,[],[],[],[]⟩).toArray 257)) 257 (ndc bX ⟨0,true,[],[],[],[]⟩).toArray;have cm:(w.alloc (.cells (ndc bX ⟨0,false,[],[],[],[]⟩).toArray 257)).1.size=w.1.size+1:=by simp
 rw[cm]at bY;have V:LS w (w.1.size+1) bX (bD []) ((w.alloc (.cells (ndc bX ⟨0,false,[],[],[],[]⟩).toArray 257)).alloc (.cells (ndc bX ⟨0,true,[],[],[],[]⟩).toArray 257)):=
  ⟨eT w _ _,ck,bY,kH,xE _ _ _ _,fun _ e=>by cases e⟩
 have d:Hid _:=V;clear V ck bY cm h;go_enter func204,ntmps204;go_upto_region 2 with fail
 change Code.wp _ _ _ _ ((w.alloc (.cells (ndc bX ⟨0,false,[],[],[],[]⟩).toArray 257)).alloc (.cells (ndc bX ⟨0,true,[],[],[],[]⟩).toArray 257));generalize (w.alloc (.cells (ndc bX ⟨0,false,[],[],[],[]⟩).toArray 257)).alloc (.cells (ndc bX ⟨0,true,[],[],[],[]⟩).toArray 257)=cz at*;generalize cf:w.1.size+1=m at*;clear cf;go_wp2_with fail;go_loopw [5] (fun i wr=> ∃(j:Nat)(U P:Option Addr)(N Q:Nat)(es:List (ByteArray×ByteArray)),j<=n/\i= .int .i64 (j:Nat)/\es.length<=j/\lfP l=(lfP (l.drop j)).map (es++ ·)/\LS w m ⟨U,N,P,Q,none,0,none,0⟩ (bD es) wr) (fun i _=>n-(intOf i).toNat)
 case atStart=>exact⟨0,none,none,0,0,[],kX _,rfl,kX _,kP,d.out⟩
 case round=>
  clear d;obtain⟨j,U,P,N,Q,es,cB,rfl,bw,a7,V⟩:=hrel;obtain⟨v,bR⟩:∃v:NdV,v=⟨U,N,P,Q,none,0,none,0⟩:=⟨_,rfl⟩;rw[<-bR]at V;have co:Hid _:=bR;clear bR;obtain⟨ai,rfl⟩:∃x,x=wr:=⟨_,rfl⟩;have G:Hid _:=a7;have d:Hid _:=V;clear a7;by_cases ce:j<n
  ·have bP:(j:Int)< (n:Int):=kH;have ap:=bi.out ai V.bel;obtain⟨b,off,rfl,_,bf⟩:=ap.at_ kH;have cn:Hid _:=ap;clear V ap;obtain⟨k,cd,cv⟩:=sF bq j;have b3:=bf j ce;rw[cd]at b3;have b7:lfK (l.drop j)=k:=by unfold lfK;rw[sE,m2,cd];rfl
   have R:Hid _:=b7;clear b7;have bv:(l.drop j).length=n-j:=by rw[k3,ab]
   have M:Hid _:=bv;clear bv;by_cases hA:j+1+k<n
   ·obtain⟨x,hx,cy⟩:=sF bq (j+1+k);have b4:=bf (j+1+k) hA;rw[hx]at b4;have b8:lfV (l.drop j)=x:=by unfold lfV;rw[R.out,sE,show j+(1+k)=j+1+k by omega,hx];rfl
    have ak:Hid _:=b8;clear b8 bf;have b9:(j:Int)+1+(k:Int)< (n:Int):=kH;have cg:IntKind.i64.wrap ((j:Int)+1+(k:Int))=((j+1+k:Nat):Int):=by simp[IntKind.wrap,IntKind.bits,IntKind.signed];omega
    go_upto_region 9 with fail
    clear b3 b4 cg;by_cases cA:j+2+k+x<=n
    ·have ca:(j:Int)+2+(k:Int)+(x:Int)<=(n:Int):=kH;by_cases ct:x<=70
     ·have bH:(x:Int)<=70:=kH;have N:=lN cn.out (j+1) k kH (c-(j+1)) kH (by unfold maxLen;omega);have b1:=xF (strOfNums ((l.drop (j+1)).take k)) (by rw[rg,lw];omega) ai;generalize a5:strOfNums ((l.drop (j+1)).take k)=q at*;go_wp2_with fail;refine b1.mono ?_;rintro e C ⟨rfl,ac⟩;obtain rfl:=ac.symm;have bx:q.size=k:=by rw[<-a5,rg,lw,k3,ab];omega
      rw[bx];have bk:Hid _:=a5;clear b1 ac a5 bx;by_cases f:1<=k/\k<=40
      ·rw[q6 f];have a9:=iO.2 (by rw[R.out,ak.out,M.out];omega);have J:ez (l.drop j)=q:=by rw[<-bk.out];unfold ez;rw[R.out,m0]
       have L:gT (l.drop j)=2+k+x:=by unfold gT;rw[R.out,ak.out]
       have u:lfP l=(lfP (l.drop (j+2+k+x))).map ((es++[(q,gU (l.drop j))])++ ·):=by
        rw[G.out,qK a9,J,L,m0,show j+(2+k+x)=j+2+k+x by omega,Option.map_map];congr 1;funext r;simp
       have cb:gU (l.drop j)=strOfNums ((l.drop (j+2+k)).take x):=by unfold gU;rw[R.out,ak.out,m0,show j+(2+k)=j+2+k by omega]
       obtain⟨Y,bt⟩:∃Y:Option Addr,(if c=j+2+k then some ⟨b,off,none⟩else some ⟨b,off+(j+2+k),none⟩)=Y:=⟨_,rfl⟩;have am:Hid _:=bt;clear bt;have I:Hid _:=u;have af:Hid (∀C,Below w.1.size w C->(convert 70 9 (.slice (some ⟨b,off+(j+1),none⟩) k (c-(j+1)))).run prog C= .ok (.string q) C/\(convert 70 9 (.slice Y x (c-(j+2+k)))).run prog C= .ok (.string (gU (l.drop j))) C):=fun C ac=>by
        have bN:=bi.out C ac;refine⟨?_,?_⟩
        ·rw[<-bk.out];exact lN bN (j+1) k kH (c-(j+1)) kH (by unfold maxLen;omega)
        ·rw[cb,<-am.out];by_cases bu:c=j+2+k
         ·rw[qb bu];have ch:x=0:=kH;subst ch;have:=lN bN 0 0 kH (c-(j+2+k)) kH (by unfold maxLen;omega);rw[m2]at this;simpa using this
         ·rw[q4 bu];exact lN bN (j+2+k) x kH (c-(j+2+k)) kH (by unfold maxLen;omega)
       clear a9 J L u N cb;generalize gU (l.drop j)=z at*;rw[co.out]at d;have bs:bD es=⟨0,true,es.map (·.1),es.map (·.2),[],[]⟩:=rfl;rw[bs]at d;generalize a6:es.map (·.1)=ks at*;generalize a8:es.map (·.2)=H at*;have bj:=kG a6 a8;have cw:ks.length<=j:=by rw[<-a6,oR];exact bw
       have cx:H.length<=j:=by rw[<-a8,oR];exact bw
       clear a6 a8 bs;go_upto_region 11 with fail
       have aw:IntKind.i64.wrap ((j:Int)+1)=(j:Int)+1:=by simp[IntKind.wrap,IntKind.bits,IntKind.signed];omega
       have aH:IntKind.i64.wrap ((j:Int)+1+(k:Int))=(j:Int)+1+(k:Int):=by simp[IntKind.wrap,IntKind.bits,IntKind.signed];omega
       have aO:(0:Int)<=(j:Int)+1+(k:Int):=kH;have aX:(j:Int)+1+(k:Int)<=(c:Int):=kH;have a0:(0:Int)<=(j:Int)+1:=kH;have a1:((j:Int)+1+(k:Int)).toNat=j+1+k:=kH;have a2:((j:Int)+1).toNat=j+1:=kH;have a3:(j:Int)+1<=max ((j:Int)+1+(k:Int)) 0:=kH;have bn:=bDr ai;have o:=d.out.below bn;have an:=af.out _ o.bel;refine ay (fun C=>C.cell? ⟨m,2,none⟩=some (.slice U ks.length N)/\(convert 70 9 (.slice (some ⟨b,off+(j+1),none⟩) k (c-(j+1)))).run prog C= .ok (.string q) C) (fun k=>decide (12<=k)) kO ?_;generalize ai.drew=A at*;have cs:A.cell? ⟨m,2,none⟩=some (.slice U ks.length N)/\(convert 70 9 (.slice (some ⟨b,off+(j+1),none⟩) k (c-(j+1)))).run prog A= .ok (.string q) A:=⟨o.blk.cell 2,an.1⟩;have bd:=bAl A (.cells #[.string q] 9);have F:=o.below bd;have ar:(A.alloc (.cells #[.string q] 9)).cell? ⟨m,2,none⟩=some (.slice U ks.length N)/\(convert 70 9 (.slice (some ⟨b,off+(j+1),none⟩) k (c-(j+1)))).run prog (A.alloc (.cells #[.string q] 9))= .ok (.string q) (A.alloc (.cells #[.string q] 9)):=⟨F.blk.cell 2,(af.out _ F.bel).1⟩;clear d bn an;have d:Hid _:=o;have D:Hid _:=F;clear o F bd;refine aY 0 cs ?_;refine aY 1 cs ?_;refine aY 2 cs ?_;refine aY 3 cs ?_;refine aY 4 cs ?_;refine aY 5 cs ?_;refine aY 6 cs ?_;refine aY 7 cs ?_;refine aY 8 cs ?_;refine aC 9 (.slice (some ⟨b,off+(j+1),none⟩) k (c-(j+1))) cs ?hyp9 ?_
       case hyp9=>(intro w T;obtain⟨cq,cr⟩:=T;go_simp;first|done|(intro hx;exfalso;omega)|(rw[qb kH,am.out]))
       refine aY 10 cs ?_;refine aj 11 fun s f=> ?_;refine fj _ _ _ rfl (v:= .slice (some ⟨A.1.size,0,none⟩) 1 1) (w':=A.alloc (.cells #[.string q] 9)) ?bsp ?_
       case bsp=>
        simp only[k9,k4,k7];exact mr lL (.string q) rfl A
       refine al f ?_;clear f s;refine aj 12 fun s f=> ?_;refine lm _ _ lL rfl (m+1) U ks.length N (os ks) rfl d.out.own.keys (.string q) rfl rfl kH kH d.out.blk.lt ?_;intro ah ag bg ba Z S t;refine al f ?_;clear f s;have bb:Own1 9 (m+1) bg (some ⟨ah,0,none⟩) (ks++[q]).length ag (os (ks++[q])):=by rw[kY,<-sy];exact ba
       have bc:=D.out.own.vals.grown D.out.own.keys S (fun g J L=>D.out.sep g J L);have W:=d.out.put (v':=⟨some ⟨ah,0,none⟩,ag,P,Q,none,0,none,0⟩) (K':=⟨0,true,ks++[q],H,[],[]⟩) Z 2 (.slice (some ⟨ah,0,none⟩) (ks.length+1) ag) (by simp[ndc]) ⟨bb,bc,ew _ _ _,ew _ _ _⟩ (fun g J L=>by
        rcases t with t|t
        ·cases J;exact d.out.sep ah t L
        ·cases J;have:=d.out.own.vals.lt L;omega)
       have ad:Blk bg 257 m _:=(Z.block m (n4 _)).trans d.out.blk;have bE:bg.cell? ⟨m,2,none⟩=some (.slice U ks.length N):=ad.cell 2;have bF:=ad.free 2;clear d D;have d:Hid _:=W;clear W ad ba Z S t bb bc ar;refine aj 13 fun s f=> ?_;go_wp2_with fail;refine al f ?_;clear f s;refine aj 14 fun s f=> ?_;go_wp2_with fail;refine al f ?_;clear f s;refine ax ?_;clear bE bF cs aw aH aO aX a0 a1 a2 a3;go_upto_region 12 with fail
       generalize bg.setCell ⟨m,2,none⟩ (.slice (some ⟨ah,0,none⟩) (ks.length+1) ag)=cl at*;generalize (some ⟨ah,0,none⟩:Option Addr)=bz at*;have aw:IntKind.i64.wrap ((j:Int)+2)=(j:Int)+2:=by simp[IntKind.wrap,IntKind.bits,IntKind.signed];omega
       have aH:IntKind.i64.wrap ((j:Int)+2+(k:Int))=(j:Int)+2+(k:Int):=by simp[IntKind.wrap,IntKind.bits,IntKind.signed];omega
       have aO:(0:Int)<=(j:Int)+2+(k:Int)+(x:Int):=kH;have aX:(j:Int)+2+(k:Int)+(x:Int)<=(c:Int):=kH;have a0:(0:Int)<=(j:Int)+2+(k:Int):=kH;have a1:((j:Int)+2+(k:Int)+(x:Int)).toNat=j+2+k+x:=kH;have a2:((j:Int)+2+(k:Int)).toNat=j+2+k:=kH;have a3:(j:Int)+2+(k:Int)<=max ((j:Int)+2+(k:Int)+(x:Int)) 0:=kH;have bp:=bDr cl;have o:=d.out.below bp;have an:=af.out _ o.bel;refine ay (fun C=>C.cell? ⟨m,3,none⟩=some (.slice P H.length Q)/\(convert 70 9 (.slice Y x (c-(j+2+k)))).run prog C= .ok (.string z) C) (fun k=>decide (11<=k)) kO ?_;generalize cl.drew=B at*;have cs:B.cell? ⟨m,3,none⟩=some (.slice P H.length Q)/\(convert 70 9 (.slice Y x (c-(j+2+k)))).run prog B= .ok (.string z) B:=⟨o.blk.cell 3,an.2⟩;have bd:=bAl B (.cells #[.string z] 9);have F:=o.below bd;have ar:(B.alloc (.cells #[.string z] 9)).cell? ⟨m,3,none⟩=some (.slice P H.length Q)/\(convert 70 9 (.slice Y x (c-(j+2+k)))).run prog (B.alloc (.cells #[.string z] 9))= .ok (.string z) (B.alloc (.cells #[.string z] 9)):=⟨F.blk.cell 3,(af.out _ F.bel).2⟩;clear d bp an;have d:Hid _:=o;have D:Hid _:=F;clear o F bd;refine aY 0 cs ?_;refine aY 1 cs ?_;refine aY 2 cs ?_;refine aY 3 cs ?_;refine aY 4 cs ?_;refine aY 5 cs ?_;refine aY 6 cs ?_;refine aY 7 cs ?_;refine aC 8 (.slice Y x (c-(j+2+k))) cs ?hyq8 ?_
       case hyq8=>(intro w T;obtain⟨cq,cr⟩:=T;go_simp;first|done|(intro hx;exfalso;omega)|(rw[qb kH,am.out]))
       refine aY 9 cs ?_;refine aj 10 fun s f=> ?_;refine fj _ _ _ rfl (v:= .slice (some ⟨B.1.size,0,none⟩) 1 1) (w':=B.alloc (.cells #[.string z] 9)) ?bsq ?_
       case bsq=>
        simp only[k9,k4,k7];exact mr lL (.string z) rfl B
       refine al f ?_;clear f s;refine aj 11 fun s f=> ?_;refine lm _ _ lL rfl (m+1) P H.length Q (os H) rfl d.out.own.vals (.string z) rfl rfl kH kH d.out.blk.lt ?_;intro a4 be b0 ba Z S t;refine al f ?_;clear f s;have bb:Own1 9 (m+1) b0 (some ⟨a4,0,none⟩) (H++[z]).length be (os (H++[z])):=by rw[kY,<-sy];exact ba
       have bc:=D.out.own.keys.grown D.out.own.vals S (fun g J L=>D.out.sep g L J);have W:=d.out.put (v':=⟨bz,ag,some ⟨a4,0,none⟩,be,none,0,none,0⟩) (K':=⟨0,true,ks++[q],H++[z],[],[]⟩) Z 3 (.slice (some ⟨a4,0,none⟩) (H.length+1) be) (by simp[ndc]) ⟨bc,bb,ew _ _ _,ew _ _ _⟩ (fun g J L=>by
        rcases t with t|t
        ·cases L;exact d.out.sep a4 J t
        ·cases L;have:=d.out.own.keys.lt J;omega)
       have ad:Blk b0 257 m _:=(Z.block m (n4 _)).trans d.out.blk;have bE:b0.cell? ⟨m,3,none⟩=some (.slice P H.length Q):=ad.cell 3;have bF:=ad.free 3;clear d D;have d:Hid _:=W;clear W ad ba Z S t bb bc ar;refine aj 12 fun s f=> ?_;go_wp2_with fail;refine al f ?_;clear f s;refine aj 13 fun s f=> ?_;go_wp2_with fail;refine al f ?_;clear f s;refine ax ?_;clear bE bF cs aw aH aO aX a0 a1 a2 a3;go_wp2;go_roundw
       case rel=>
        refine⟨j+2+k+x,bz,some ⟨a4,0,none⟩,ag,be,es++[(q,z)],kH,by go_num,by rw[kY];show es.length+1<=_;omega,I.out,?_⟩;have e:bD (es++[(q,z)])=⟨0,true,ks++[q],H++[z],[],[]⟩:=by rw[<-bj.out.1,<-bj.out.2];simp[bD]
        rw[e];exact d.out
       case measure=>simp[intOf];omega
      ·rw[q5 f];have y:fk (l.drop j)=false:=by
        cases h:fk (l.drop j)with
        |false=>rfl
        |true=>
         have:=iO.1 h;rw[R.out]at this;exact absurd ⟨this.1,this.2.1⟩ f
       have u:lfP l=none:=by rw[G.out,jZ (by rw[M.out];omega) y];rfl
       have I:Hid _:=u;clear u y;have ae:=d.out.blk;have E:=d.out.res;have O:=E.setRow (ndc v (bD es));go_wp2_with (first|(refine qi rfl 257 _ rfl m rfl 257 (ndc v (bD es)).toArray (0,0) _ ae q8 rfl bM ?_)|(refine qB rfl 257 _ _ rfl w.1.size (ndc v (bD es)).toArray rfl rfl 257 _ E bM rfl (fT _ _) ?_));refine p6 (v:= .tuple #[.agg (ndc v (bD es)).toArray,.bool false]) ?_ rfl ⟨v,bD es,false,rfl,d.out.fin.1,d.out.fin.2,kT ⟨rfl,kV I.out⟩⟩;exact bA results204 _ _ w.1.size 257 (ndc v (bD es)).toArray _ rfl O q8 rfl bM rfl
     ·have bH:70< (x:Int):=kH;have y:fk (l.drop j)=false:=by
       cases h:fk (l.drop j)with
       |false=>rfl
       |true=>
        have:=iO.1 h;rw[ak.out]at this;omega
      have u:lfP l=none:=by rw[G.out,jZ (by rw[M.out];omega) y];rfl
      have I:Hid _:=u;clear u y;have ae:=d.out.blk;have E:=d.out.res;have O:=E.setRow (ndc v (bD es));go_wp2_with (first|(refine qi rfl 257 _ rfl m rfl 257 (ndc v (bD es)).toArray (0,0) _ ae q8 rfl bM ?_)|(refine qB rfl 257 _ _ rfl w.1.size (ndc v (bD es)).toArray rfl rfl 257 _ E bM rfl (fT _ _) ?_));refine p6 (v:= .tuple #[.agg (ndc v (bD es)).toArray,.bool false]) ?_ rfl ⟨v,bD es,false,rfl,d.out.fin.1,d.out.fin.2,kT ⟨rfl,kV I.out⟩⟩;exact bA results204 _ _ w.1.size 257 (ndc v (bD es)).toArray _ rfl O q8 rfl bM rfl
    ·have ca:(n:Int)< (j:Int)+2+(k:Int)+(x:Int):=kH;have y:fk (l.drop j)=false:=by
      cases h:fk (l.drop j)with
      |false=>rfl
      |true=>
       have:=iO.1 h;rw[R.out,ak.out,M.out]at this;omega
     have u:lfP l=none:=by rw[G.out,jZ (by rw[M.out];omega) y];rfl
     have I:Hid _:=u;clear u y;have ae:=d.out.blk;have E:=d.out.res;have O:=E.setRow (ndc v (bD es));go_wp2_with (first|(refine qi rfl 257 _ rfl m rfl 257 (ndc v (bD es)).toArray (0,0) _ ae q8 rfl bM ?_)|(refine qB rfl 257 _ _ rfl w.1.size (ndc v (bD es)).toArray rfl rfl 257 _ E bM rfl (fT _ _) ?_));refine p6 (v:= .tuple #[.agg (ndc v (bD es)).toArray,.bool false]) ?_ rfl ⟨v,bD es,false,rfl,d.out.fin.1,d.out.fin.2,kT ⟨rfl,kV I.out⟩⟩;exact bA results204 _ _ w.1.size 257 (ndc v (bD es)).toArray _ rfl O q8 rfl bM rfl
   ·have b9:(n:Int)<=(j:Int)+1+(k:Int):=kH;have y:fk (l.drop j)=false:=by
     cases h:fk (l.drop j)with
     |false=>rfl
     |true=>
      have:=iO.1 h;rw[R.out,M.out]at this;omega
    have u:lfP l=none:=by rw[G.out,jZ (by rw[M.out];omega) y];rfl
    have I:Hid _:=u;clear u y bf;have ae:=d.out.blk;have E:=d.out.res;have O:=E.setRow (ndc v (bD es));go_wp2_with (first|(refine qi rfl 257 _ rfl m rfl 257 (ndc v (bD es)).toArray (0,0) _ ae q8 rfl bM ?_)|(refine qB rfl 257 _ _ rfl w.1.size (ndc v (bD es)).toArray rfl rfl 257 _ E bM rfl (fT _ _) ?_));refine p6 (v:= .tuple #[.agg (ndc v (bD es)).toArray,.bool false]) ?_ rfl ⟨v,bD es,false,rfl,d.out.fin.1,d.out.fin.2,kT ⟨rfl,kV I.out⟩⟩;exact bA results204 _ _ w.1.size 257 (ndc v (bD es)).toArray _ rfl O q8 rfl bM rfl
  ·have e:j=n:=kH;subst e;have bP:¬(j:Int)< (j:Int):=kH;have u:lfP l=some es:=by
    rw[G.out,mu (by rw[k3,ab];omega)];simp
   have I:Hid _:=u;clear u V;go_upto_region 14 with fail
   have b6:=bDr ai;have o:=d.out.below b6;have bl:∀C:World,Blk C 257 m (ndc v (bD es))->(Instr.loadAt 257 (.pointer (some ⟨m,0,none⟩))).run prog C= .ok (.agg (ndc v (bD es)).toArray) C/\C.cell? ⟨m,2,none⟩=some (.slice v.ka es.length v.kc):=fun C ac=>by
    refine⟨?_,(ac.cell 2).trans (by simp[ndc,bD])⟩;simp only[Instr.loadAt,Instr.sureAddr,q9,r2,Result.andThen];exact sL C m 257 257 (ndc v (bD es)).toArray (0,0) _ ac q8 rfl bM
   have X:Hid _:=bl;clear bl;refine ay (fun C=>(Instr.loadAt 257 (.pointer (some ⟨m,0,none⟩))).run prog C= .ok (.agg (ndc v (bD es)).toArray) C/\C.cell? ⟨m,2,none⟩=some (.slice v.ka es.length v.kc)) (fun k=>false) kO ?_;generalize ai.drew=b2 at*;have cs:=X.out b2 o.blk;have E:=o.res;have O:=E.setRow (ndc v (bD es));have cp:=o.gt;have ci:=aN b2 w.1.size (ndc v (bD es)).toArray;have b5:=X.out _ (o.blk.only ci kH);have bh:Hid _:=o.fin;clear d o b6 ci X cp;refine aC 0 (.agg (ndc v (bD es)).toArray) cs ?hyz0 ?_
   case hyz0=>exact fun C T=>bO (p:= .pointer (some ⟨m,0,none⟩)) rfl rfl T.1
   refine aY 1 cs ?_;refine aY 2 cs ?_;refine aY 3 cs ?_;refine aY 4 cs ?_;refine aj 5 fun s f=> ?_;refine s5 257 _ _ rfl w.1.size (ndc v (bD es)).toArray rfl rfl 257 _ E bM rfl (fT _ _) ?_;refine al f ?_;clear f s;refine aj 6 fun s f=> ?_;go_wp2_with fail;refine al f ?_;clear f s;refine ax ?_;clear cs b5;go_wp2_with fail;refine p6 (v:= .tuple #[.agg (ndc v (bD es)).toArray,.bool (decide (0<es.length))]) ?_ rfl ⟨v,bD es,decide (0<es.length),rfl,bh.out.1,bh.out.2,?_⟩
   ·exact bA results204 _ _ w.1.size 257 (ndc v (bD es)).toArray _ rfl O q8 rfl bM rfl
   ·cases es with
    |nil=>exact kT ⟨rfl,kT I.out⟩
    |cons e es=>exact kV ⟨kP,_,I.out,kP,rfl⟩
def fU(n:Int):Bool:=decide (0<=n/\n<6)
def fa(v:Int):Bool:=decide (1<=v/\v<=1000000000000)
def bG(h:Int):Bool:=decide (0<=h/\h<=1000000)
def el(f:Nat->Bool):Nat->Bool
 |0=>true
 |k+1=>el f k&&f k
theorem pj{f}:∀{n},el f n=true->∀i,i<n->f i=true
 |0,_,i,a=>by omega
 |n+1,h,i,a=>by
  simp only[el,ly]at h;by_cases e:i=n
  ·subst e;exact h.2
  ·exact pj h.1 i kH
theorem iV{f}:∀{n i},i<n->f i=false->el f n=false
 |0,i,a,_=>by omega
 |n+1,i,a,h=>by
  by_cases e:i=n
  ·subst e;simp[el,h]
  ·simp[el,iV (n:=n) (i:=i) (by omega) h]
theorem lO{f n}(h:el f n=true)(a:f n=true):el f (n+1)=true:=by simp[el,h,a]
def iW(K:TxK):Bool:=decide (K.ni<=6/\1<=K.no/\K.no<=6)&&bG K.h
def aF(K:TxK):Bool:=iW K&&el (fun i=>fU (K.P i).2) K.ni&&el (fun i=>fa (K.V i)) K.no
theorem RTx.inN{w v K}(H:RTx w v K)(i)(a:i<K.ni):∃b off,v.ia=some ⟨b,off,none⟩/\b<w.1.size/\w.cell? ⟨b,off+i*33+32,none⟩=some (.int .i64 (K.P i).2):=by
 obtain⟨b,off,e,d,c⟩:=H.ins.at_ kH;refine⟨b,off,e,d,?_⟩;rw[c i 32 a kH];exact jC _ (H.pts.len i a)
theorem RTx.outN{w v K}(H:RTx w v K)(i)(c:i<K.no):∃b off,v.oa=some ⟨b,off,none⟩/\b<w.1.size/\w.cell? ⟨b,off+i,none⟩=some (.int .i64 (K.V i)):=by
 obtain⟨b,off,e,d,a⟩:=H.outs.at_ kH;refine⟨b,off,e,d,?_⟩;have:=a i 0 c kH;simpa [eg]using this
theorem Hy(v K w)(H:RTx w v K)(T:K.ni<=1048576)(S:K.no<=1048576):
 Calls prog 194 #[dM v K] w fun e w'=>e= .returned (.bool (aF K))/\Below w.1.size w w':=by
 unfold dM;have k:=ao w 121 (txc v K).toArray;have c:=bAl w (.cells (txc v K).toArray 121);have x:(w.alloc (.cells (txc v K).toArray 121)).cell? ⟨w.1.size,0,none⟩=some (.slice v.ia K.ni v.ic):=by rw[k.cell];rfl
 have y:(w.alloc (.cells (txc v K).toArray 121)).cell? ⟨w.1.size,1,none⟩=some (.slice v.oa K.no v.oc):=by rw[k.cell];rfl
 have M:(w.alloc (.cells (txc v K).toArray 121)).cell? ⟨w.1.size,2,none⟩=some (.int .i64 K.h):=by rw[k.cell];rfl
 have r:=H.below c;go_enter func194,ntmps194;go_upto_region 1 with fail
 change Code.wp _ _ _ _ (w.alloc (.cells (txc v K).toArray 121));generalize w.alloc (.cells (txc v K).toArray 121)=L at*;clear k;by_cases g:iW K=true
 ·have m:K.ni<=6/\1<=K.no/\K.no<=6/\0<=K.h/\K.h<=1000000:=by simpa [iW,bG,and_assoc]using g
  obtain⟨N,O,P,Q,R⟩:=m;have A:¬(6:Int)< (K.ni:Int):=kH;have B:¬(K.no:Int)<1:=kH;have C:¬(6:Int)< (K.no:Int):=kH;have D:¬K.h<0:=kH;have E:¬(1000000:Int)<K.h:=kH;have q:Hid (iW K=true):=g;clear g;go_wp2;go_loopw [3] (fun i wr=> ∃j,j<=K.ni/\i= .int .i64 (j:Nat)/\wr=L/\el (fun i=>fU (K.P i).2) j=true) (fun i _=>K.ni-(intOf i).toNat)
  case atStart=>exact⟨0,kX _,rfl,rfl,rfl⟩
  case round=>
   obtain⟨j,I,rfl,rfl,d⟩:=hrel;have o:Hid _:=d;clear d;by_cases f:j<K.ni
   ·obtain⟨b,off,l,s,z⟩:=r.inN j f;rw[l]at x;have u:(j:Int)< (K.ni:Int):=kH;have t:(0:Int)<=(j:Int):=kH;by_cases F:(K.P j).2<0
    ·have a:Hid (aF K=false):=by
      show _= _;have:fU (K.P j).2=false:=by simp[fU];omega
      unfold aF;rw[iV (i:=j) f this];simp
     go_wp2;go_ret;exact⟨by rw[a.out];rfl,c⟩
    ·by_cases G:6<=(K.P j).2
     ·have a:Hid (aF K=false):=by
       show _= _;have:fU (K.P j).2=false:=by simp[fU];omega
       unfold aF;rw[iV (i:=j) f this];simp
      go_wp2;go_ret;exact⟨by rw[a.out];rfl,c⟩
     ·have h:Hid (el (fun i=>fU (K.P i).2) (j+1)=true):=lO o.out (by simp[fU];omega);go_wp2;go_roundw
      case rel=>exact⟨j+1,kH,by go_num,by trivial,h.out⟩
      case measure=>simp[intOf];omega
   ·have e:j=K.ni:=kH;subst e;go_wp2;go_loopw [4] (fun i J=> ∃j,j<=K.no/\i= .int .i64 (j:Nat)/\J=wr/\el (fun i=>fa (K.V i)) j=true) (fun i _=>K.no-(intOf i).toNat)
    case atStart=>exact⟨0,kX _,rfl,rfl,rfl⟩
    case round=>
     obtain⟨j,I,rfl,rfl,d⟩:=hrel;have p:Hid _:=d;clear d;by_cases f:j<K.no
     ·obtain⟨b,off,l,s,z⟩:=r.outN j f;rw[l]at y;have u:(j:Int)< (K.no:Int):=kH;have t:(0:Int)<=(j:Int):=kH;by_cases F:K.V j<1
      ·have a:Hid (aF K=false):=by
        show _= _;have:fa (K.V j)=false:=by simp[fa];omega
        unfold aF;rw[iV (n:=K.no) (i:=j) f this];simp
       go_wp2;go_ret;exact⟨by rw[a.out];rfl,c⟩
      ·by_cases G:1000000000000<K.V j
       ·have a:Hid (aF K=false):=by
         show _= _;have:fa (K.V j)=false:=by simp[fa];omega
         unfold aF;rw[iV (n:=K.no) (i:=j) f this];simp
        go_wp2;go_ret;exact⟨by rw[a.out];rfl,c⟩
       ·have h:Hid (el (fun i=>fa (K.V i)) (j+1)=true):=lO p.out (by simp[fa];omega);go_wp2;go_roundw
        case rel=>exact⟨j+1,kH,by go_num,by trivial,h.out⟩
        case measure=>simp[intOf];omega
     ·have e:j=K.no:=kH;subst e;have a:Hid (aF K=true):=by show _= _;unfold aF;rw[q.out,o.out,p.out];rfl
      go_wp2;go_ret;exact⟨by rw[a.out];rfl,c⟩
 ·have a:Hid (aF K=false):=by show _= _;unfold aF;simp[g]
  have m:¬(K.ni<=6/\1<=K.no/\K.no<=6/\0<=K.h/\K.h<=1000000):=by simpa [iW,bG,and_assoc]using g
  clear g;by_cases A:(6:Int)< (K.ni:Int)
  ·go_wp2;go_ret;exact⟨by rw[a.out];rfl,c⟩
  by_cases B:(K.no:Int)<1
  ·go_wp2;go_ret;exact⟨by rw[a.out];rfl,c⟩
  by_cases C:(6:Int)< (K.no:Int)
  ·go_wp2;go_ret;exact⟨by rw[a.out];rfl,c⟩
  by_cases D:K.h<0
  ·go_wp2;go_ret;exact⟨by rw[a.out];rfl,c⟩
  have E:(1000000:Int)<K.h:=kH;clear m;go_wp2;go_ret;exact⟨by rw[a.out];rfl,c⟩
theorem lP(h w):Calls prog 99 #[.int .i64 h] w fun e w'=>e= .returned (.bool (bG h))/\w'=w:=by
 by_cases b:0<=h
 ·by_cases c:h<=1000000
  ·have a:Hid (bG h=true):=by show _= _;simp[bG,b,c]
   go_enter func99,ntmps99;go_wp2;go_ret;exact⟨by rw[a.out];rfl,rfl⟩
  ·have a:Hid (bG h=false):=by show _= _;simp[bG,c]
   go_enter func99,ntmps99;go_wp2;go_ret;exact⟨by rw[a.out];rfl,rfl⟩
 ·have a:Hid (bG h=false):=by show _= _;simp[bG,b]
  go_enter func99,ntmps99;go_wp2;go_ret;exact⟨by rw[a.out];rfl,rfl⟩
theorem xH(v w):Calls prog 98 #[.int .i64 v] w fun e w'=>e= .returned (.bool (fa v))/\w'=w:=by
 by_cases b:1<=v
 ·by_cases c:v<=1000000000000
  ·have a:Hid (fa v=true):=by show _= _;simp[fa,b,c]
   go_enter func98,ntmps98;go_wp2;go_ret;exact⟨by rw[a.out];rfl,rfl⟩
  ·have a:Hid (fa v=false):=by show _= _;simp[fa,c]
   go_enter func98,ntmps98;go_wp2;go_ret;exact⟨by rw[a.out];rfl,rfl⟩
 ·have a:Hid (fa v=false):=by show _= _;simp[fa,b]
  go_enter func98,ntmps98;go_wp2;go_ret;exact⟨by rw[a.out];rfl,rfl⟩
theorem RTx.inCells{w v K b off}(H:RTx w v K)(e:v.ia=some ⟨b,off,none⟩)(i)(a:i<K.ni):∀(j:Nat)(c:Value),(pc (K.P i))[j]?=some c->w.cell? ⟨b,off+i*33+j,none⟩=some c:=by
 have h:=H.ins;rw[e]at h;exact h.cells i a
theorem xI(v K w)(H:RTx w v K)(ap:K.ni<=1048576)(an:K.no<=1048576):
 Calls prog 169 #[dM v K] w fun e w'=>e= .returned (.bool (aF K))/\Below w.1.size w w':=by
 unfold dM;have s:=ao w 121 (txc v K).toArray;have g:=bAl w (.cells (txc v K).toArray 121);have Q:(w.alloc (.cells (txc v K).toArray 121)).cell? ⟨w.1.size,0,none⟩=some (.slice v.ia K.ni v.ic):=by rw[s.cell];rfl
 have G:(w.alloc (.cells (txc v K).toArray 121)).cell? ⟨w.1.size,1,none⟩=some (.slice v.oa K.no v.oc):=by rw[s.cell];rfl
 have R:(w.alloc (.cells (txc v K).toArray 121)).cell? ⟨w.1.size,2,none⟩=some (.int .i64 K.h):=by rw[s.cell];rfl
 have z:=H.below g;go_enter func169,ntmps169;go_upto_region 1 with fail
 change Code.wp _ _ _ _ (w.alloc (.cells (txc v K).toArray 121));generalize w.alloc (.cells (txc v K).toArray 121)=P at*;have ab:=s.lt;clear s;by_cases l:iW K=true
 ·have u:K.ni<=6/\1<=K.no/\K.no<=6/\0<=K.h/\K.h<=1000000:=by simpa [iW,bG,and_assoc]using l
  obtain⟨ah,ai,ak,T,U⟩:=u;have V:¬(6:Int)< (K.ni:Int):=kH;have W:¬(K.no:Int)<1:=kH;have X:¬(6:Int)< (K.no:Int):=kH;have Y:bG K.h=true:=by simp[bG,T,U]
  have E:Hid (iW K=true):=l;clear l;go_wp2_with (go_at_call 99;refine(lP _ _).mono ?_;rintro e w' ⟨rfl,k⟩;obtain rfl:=k.symm);go_loopw [32] (fun i wr=> ∃j,j<=K.ni/\i= .int .i64 (j:Nat)/\Below P.1.size P wr/\el (fun i=>fU (K.P i).2) j=true) (fun i _=>K.ni-(intOf i).toNat)
  case atStart=>exact⟨0,kX _,rfl,kF,rfl⟩
  case round=>
   obtain⟨j,Z,rfl,f,d⟩:=hrel;have C:Hid _:=d;have o:=g.trans (f.mono g.size);clear d;by_cases a:j<K.ni
   ·obtain⟨b,off,t,J,S⟩:=z.inN j a;have x:=H.pts.len j a;have q:=(z.below f).inCells t j a;have ac:(prog.info? 52).map (·.size)=some (pc (K.P j)).length:=by rw[dS _ x];exact gl
    have O:(prog.info? 52).map (·.size)=some (pc (K.P j)).toArray.size:=by rw[ou _ x];exact gl
    have ad:(pc fy).toArray.size=(pc (K.P j)).toArray.size:=by rw[ou _ x];rfl
    rw[t];have M:(j:Int)< (K.ni:Int):=kH;have L:(0:Int)<=(j:Int):=kH;have N:=ao wr 52 (pc (K.P j)).toArray;have ag:(wr.alloc (.cells (pc (K.P j)).toArray 52)).cell? ⟨wr.1.size,32,none⟩=some (.int .i64 (K.P j).2):=by rw[N.cell];exact jC _ x
    have A:Below P.1.size P (wr.alloc (.cells (pc (K.P j)).toArray 52)):=f.alloc f.size _;have y:=g.trans (A.mono g.size);have m:=kG A y;clear N A y f o;go_upto_region 5 with fail
    go_upto_region 6 with(first|(refine dm rfl 52 _ rfl b (off+j*33) rfl (pc (K.P j)) _ q r9 rfl ac ?_)|(refine aL rfl 52 _ _ rfl wr (pc fy).toArray (pc (K.P j)).toArray 52 rfl rfl O ad (vy _) ?_))
    generalize wr.alloc (.cells (pc (K.P j)).toArray 52)=ar at*;by_cases B:(K.P j).2<0
    ·have c:Hid (aF K=false):=by
      show _= _;have:fU (K.P j).2=false:=by simp[fU];omega
      unfold aF;rw[iV (i:=j) a this];simp
     go_wp2;go_ret;exact⟨by rw[c.out];rfl,m.out.2⟩
    ·by_cases am:6<=(K.P j).2
     ·have c:Hid (aF K=false):=by
       show _= _;have:fU (K.P j).2=false:=by simp[fU];omega
       unfold aF;rw[iV (i:=j) a this];simp
      go_wp2;go_ret;exact⟨by rw[c.out];rfl,m.out.2⟩
     ·have r:Hid (el (fun i=>fU (K.P i).2) (j+1)=true):=lO C.out (by simp[fU];omega);go_wp2;go_roundw
      case rel=>exact⟨j+1,kH,by go_num,m.out.1,r.out⟩
      case measure=>simp[intOf];omega
   ·have e:j=K.ni:=kH;subst e;have af:wr.cell? ⟨w.1.size,1,none⟩=some (.slice v.oa K.no v.oc):=by rw[f.cell (p:=⟨w.1.size,1,none⟩) ab];exact G
    have F:=z.below f;clear Q G R;go_wp2;go_loopw [48] (fun i ae=> ∃j,j<=K.no/\i= .int .i64 (j:Nat)/\ae=wr/\el (fun i=>fa (K.V i)) j=true) (fun i _=>K.no-(intOf i).toNat)
    case atStart=>exact⟨0,kX _,rfl,rfl,rfl⟩
    case round=>
     obtain⟨j,Z,rfl,rfl,d⟩:=hrel;have D:Hid _:=d;clear d;by_cases a:j<K.no
     ·obtain⟨b,off,t,J,S⟩:=F.outN j a;rw[t];have M:(j:Int)< (K.no:Int):=kH;have L:(0:Int)<=(j:Int):=kH;by_cases B:fa (K.V j)=true
      ·have r:Hid (el (fun i=>fa (K.V i)) (j+1)=true):=lO D.out B;go_wp2_with (go_at_call 98;refine(xH _ _).mono ?_;rintro e w' ⟨rfl,k⟩;obtain rfl:=k.symm);go_roundw
       case rel=>exact⟨j+1,kH,by go_num,by trivial,r.out⟩
       case measure=>simp[intOf];omega
      ·have I:fa (K.V j)=false:=by simpa using B
       have c:Hid (aF K=false):=by
        show _= _;unfold aF;rw[iV (n:=K.no) (i:=j) a I];simp
       go_wp2_with (go_at_call 98;refine(xH _ _).mono ?_;rintro e w' ⟨rfl,k⟩;obtain rfl:=k.symm);go_ret;exact⟨by rw[c.out];rfl,o⟩
     ·have e:j=K.no:=kH;subst e;have c:Hid (aF K=true):=by show _= _;unfold aF;rw[E.out,C.out,D.out];rfl
      go_wp2;go_ret;exact⟨by rw[c.out];rfl,o⟩
 ·have c:Hid (aF K=false):=by show _= _;unfold aF;simp[l]
  have u:¬(K.ni<=6/\1<=K.no/\K.no<=6/\0<=K.h/\K.h<=1000000):=by simpa [iW,bG,and_assoc]using l
  clear l;by_cases V:(6:Int)< (K.ni:Int)
  ·go_wp2;go_ret;exact⟨by rw[c.out];rfl,g⟩
  by_cases W:(K.no:Int)<1
  ·go_wp2;go_ret;exact⟨by rw[c.out];rfl,g⟩
  by_cases X:(6:Int)< (K.no:Int)
  ·go_wp2;go_ret;exact⟨by rw[c.out];rfl,g⟩
  have Y:bG K.h=false:=by
   unfold bG;rw[decide_eq_false_iff_not];intro h;apply u;omega
  clear u;go_wp2_with (go_at_call 99;refine(lP _ _).mono ?_;rintro e w' ⟨rfl,k⟩;obtain rfl:=k.symm);go_ret;exact⟨by rw[c.out];rfl,g⟩
theorem kL(n)(h:0<=n/\n<=255):IntKind.u8.wrap n=n:=by rw[IntKind.wrap_u8];omega
def fD(f:Nat->List Int):Nat->List Int
 |0=>[]
 |k+1=>fD f k++f k
theorem sG{f}:∀{n},(∀i,i<n->IsB (f i))->IsB (fD f n)
 |0,_=>ir
 |n+1,h=>cY (sG (fun i a=>h i kH)) (h n kH)
theorem sI{f s}:∀{n},(∀i,i<n->(f i).length=s)->(fD f n).length=s*n
 |0,_=>by simp[fD]
 |n+1,h=>by rw[fD,kY,sI (fun i a=>h i kH),h n kH,Nat.mul_add,oG]
def ptB(p:List Int×Int):List Int:=p.1++[p.2]
def dI(K:TxK)(j:Nat):List Int:=[(K.ni:Int)]++fD (fun i=>ptB (K.P i)) j
def fE(K:TxK)(j:Nat):List Int:=(dI K K.ni++[(K.no:Int)])++fD (fun i=>num (K.V i) 8) j
def fF(K:TxK):List Int:=fE K K.no++num K.h 4
theorem mS(K j):dI K (j+1)=dI K j++(K.P j).1++[(K.P j).2]:=by simp[dI,fD,ptB]
theorem sJ(K j):fE K (j+1)=fE K j++num (K.V j) 8:=by simp[fE,fD]
theorem sK(K):dI K 0=[(K.ni:Int)]:=by simp[dI,fD]
theorem sQ(K):fE K 0=dI K K.ni++[(K.no:Int)]:=by simp[fE,fD]
structure TxOkP(K:TxK):Prop where
 ni:K.ni<=6
 n1:1<=K.no
 no:K.no<=6
 h0:0<=K.h
 h1:K.h<=1000000
 pt:∀i,i<K.ni->0<=(K.P i).2/\(K.P i).2<6
 out:∀i,i<K.no->1<=K.V i/\K.V i<=1000000000000
theorem jJ{K}(h:aF K=true):TxOkP K:=by
 unfold aF iW bG at h;simp only[ly,sZ]at h;exact⟨h.1.1.1.1,h.1.1.1.2.1,h.1.1.1.2.2,h.1.1.2.1,h.1.1.2.2,fun i a=>by have:=pj h.1.2 i a;simpa [fU]using this,fun i a=>by have:=pj h.2 i a;simpa [fa]using this⟩
theorem HU{K}(a:IsPts K.P K.ni){j}(c:j<=K.ni):(dI K j).length=1+33*j:=by
 rw[dI,kY,sI (s:=33) (fun i b=>by simp[ptB,a.len i (by omega)])];simp
theorem Ia{K}(a:IsPts K.P K.ni)(j):(fE K j).length=2+33*K.ni+8*j:=by
 rw[fE,kY,kY,HU a kE,sI (s:=8) (fun i b=>gS _ _)];simp;omega
theorem pm{K}(a:IsPts K.P K.ni):(fF K).length=6+33*K.ni+8*K.no:=by
 rw[fF,kY,Ia a,gS];omega
theorem Ib{K}(c:IsPts K.P K.ni)(b:TxOkP K):IsB (fF K):=by
 have d:=b.ni;have e:=b.no;refine cY (cY (cY (cY (fw kH kH) (sG fun i a=>cY (c.byte i a) (fw ?_ ?_))) (fw kH kH)) (sG fun i a=>fL _ _)) (fL _ _)
 ·exact(b.pt i a).1
 ·have:=(b.pt i a).2;omega
def bT(K:TxK):List Int:=if aF K=true then fF K else []
theorem kM{K}(h:aF K=true):bT K=fF K:=by unfold bT;rw[qb h]
theorem po{K}(h:aF K=false):bT K=[]:=by unfold bT;rw[q4 (by simp[h])]
theorem sR{K}(a:IsPts K.P K.ni):IsB (bT K):=by
 by_cases h:aF K=true
 ·rw[kM h];exact Ib a (jJ h)
 ·rw[po (by simpa using h)];exact ir
theorem sU{K}(a:IsPts K.P K.ni):(bT K).length<=252:=by
 by_cases h:aF K=true
 ·rw[kM h,pm a];have:=(jJ h).ni;have:=(jJ h).no;omega
 ·rw[po (by simpa using h)];simp
theorem Ic{w f g p}(h:Blk w f g (pc p))(a:p.1.length=32)(b:IsB p.1):Bs w (some ⟨g,0,none⟩) 32 32 p.1:=
 ⟨a,kE,by unfold maxLen;omega,fun e=>(by cases e),fun d=>⟨g,0,rfl,h.lt,fun i c=>by rw[ld,h.cell];exact rm p a i c⟩,b⟩
theorem Id(B a n c xs v K w)(aH:Own B w a n c xs)(bv:B<=w.1.size)(b3:n<=1000000)(ar:∀w',Below B w w'->RTx w' v K)(H:TxOkP K):
 Calls prog 197 #[dM v K,.slice a n c] w fun e w'=> ∃a3 m a8,m=n+(fF K).length/\e= .returned (.slice a3 m a8)/\Below B w w'/\Keeps w w'/\Own B w' a3 m a8 (xs++fF K):=by
 have S:=(ar w kF).pts;have b7:=H.ni;have b8:=H.no;have b9:=H.h0;have ca:=H.h1;have O:=pm S;have bn:Hid _:=O;unfold dM;have Z:=ao w 121 (txc v K).toArray;have aw:=bAl w (.cells (txc v K).toArray 121);have bq:(w.alloc (.cells (txc v K).toArray 121)).cell? ⟨w.1.size,0,none⟩=some (.slice v.ia K.ni v.ic):=by rw[Z.cell];rfl
 have ow:=aH.below aw;go_enter func197,ntmps197;go_upto_region 1 with fail
 change Code.wp _ _ _ _ (w.alloc (.cells (txc v K).toArray 121));have ag:Keeps w (w.alloc (.cells (txc v K).toArray 121)):=(Keeps.refl w).alloc _;generalize w.alloc (.cells (txc v K).toArray 121)=U at*;have b6:=Z.lt;have b0:IntKind.u8.wrap (K.ni:Int)=(K.ni:Int):=kL _ kH;have b1:IntKind.u8.wrap (K.no:Int)=(K.no:Int):=kL _ kH;have a4:=aw.mono bv;have s:=kG Z (kR a4 ag);clear Z aw a4 ag O;have bj:B<=U.1.size:=kH;go_wp2_with (at_builtin;refine db rfl _ _ rfl B a n c xs rfl ?own _ 1 1 [(K.ni:Int)] rfl ?bs ?len ?B ?_)
 case own=>exact rc ow _
 case bs=>exact cZ U _ kH kH
 case len=>omega
 case B=>first|omega|(simp;omega)
 intro bp bt w1 R a5 g1;have P:=((Keeps.refl U).alloc _).trans (mJ (rc ow _) g1);have ae:=(kF.alloc bj _).trans a5;have a9:w1.cell? ⟨w.1.size,0,none⟩=some (.slice v.ia K.ni v.ic):=by rw[(s.out.1.keeps P kN).cell];rfl
 rw[<-sK]at R;have ak:=kG R (kR P ae);clear ow bq a5 g1 P ae R;go_wp2;go_loopw [1,19] (fun o i wr=> ∃j E m G,j<=K.ni/\i= .int .i64 (j:Nat)/\m=n+1+33*j/\o= .slice E m G/\Below B U wr/\Keeps U wr/\Own B wr E m G (xs++dI K j)) (fun _ i _=>K.ni-(intOf i).toNat)
 case atStart=>exact⟨0,bp,n+1,bt,kX _,rfl,rfl,rfl,ak.out.2.2,ak.out.2.1,ak.out.1⟩
 case round=>
  obtain⟨j,E,m,G,bw,rfl,bx,rfl,p,r,q⟩:=hrel;have bP:m<=n+1+33*j:=kH;have bR:n+1+33*j<=m:=kH;clear bx;have l:=s.out.2.1.trans p;have z:=ar wr l;by_cases d:j<K.ni
  ·obtain⟨b,off,Y,be,bb⟩:=z.inN j d;have N:=S.len j d;have bd:=S.byte j d;have x:=z.inCells Y j d;have bz:(prog.info? 52).map (·.size)=some (pc (K.P j)).length:=by rw[dS _ N];exact gl
   have bl:(prog.info? 52).map (·.size)=some (pc (K.P j)).toArray.size:=by rw[ou _ N];exact gl
   have bE:(pc fy).toArray.size=(pc (K.P j)).toArray.size:=by rw[ou _ N];rfl
   have b4:=H.pt j d;have b2:IntKind.u8.wrap (K.P j).2=(K.P j).2:=kL _ kH;rw[Y];have bg:(j:Int)< (K.ni:Int):=kH;have bf:(0:Int)<=(j:Int):=kH;have a2:=l.size;go_upto_region 4 with fail
   go_upto_region 5 with(first|(refine dm rfl 52 _ rfl b (off+j*33) rfl (pc (K.P j)) _ x r9 rfl bz ?_)|(refine aL rfl 52 _ _ rfl wr (pc fy).toArray (pc (K.P j)).toArray 52 rfl rfl bl bE (vy _) ?_))
   have aO:=ao wr 52 (pc (K.P j)).toArray;have aX:Own B (wr.alloc (.cells (pc (K.P j)).toArray 52)) E m G (xs++dI K j):=rc q _;have a7:Below B U (wr.alloc (.cells (pc (K.P j)).toArray 52)):=p.alloc kH _;have ai:Keeps U (wr.alloc (.cells (pc (K.P j)).toArray 52)):=r.alloc _;have cd:(wr.alloc (.cells (pc (K.P j)).toArray 52)).1.size=wr.1.size+1:=by simp
   generalize wr.alloc (.cells (pc (K.P j)).toArray 52)=cb at*;have sb:=Ic aO N bd;have A:=kG aO (kR a7 ai);clear aO a7 ai p r q x l z;go_upto_region 6 with(at_builtin;refine db rfl _ _ rfl B E m G (xs++dI K j) rfl aX _ 32 32 (K.P j).1 rfl sb ?lenx ?Bx ?_)
   case lenx=>omega
   case Bx=>omega
   intro V X T f F M;have k:=mJ aX M;have af:=A.out.1.keeps k kN;have bu:T.cell? ⟨wr.1.size,32,none⟩=some (.int .i64 (K.P j).2):=by rw[af.cell];exact jC _ N
   have ac:=A.out.2.1.trans F;have Q:=A.out.2.2.trans k;have cc:=F.size;have y:=kG ac Q;clear aX sb F M k af ac Q A;generalize bi:(K.P j).2=bk at*;go_wp2_with (at_builtin;refine db rfl _ _ rfl B V (m+32) X (xs++(dI K j++(K.P j).1)) rfl ?own2 _ 1 1 [bk] rfl ?bs2 ?len2 ?B2 ?_)
   case own2=>exact rc f _
   case bs2=>exact cZ T bk kH kH
   case len2=>omega
   case B2=>simp;omega
   intro t u bF D a6 bc;have ah:=(y.out.2.alloc _).trans (mJ (rc f _) bc);have ad:=(y.out.1.alloc kH _).trans a6;replace D:Own B bF t (m+32+1) u (xs++dI K (j+1)):=by
    rw[mS,bi];simpa only[k5]using D
   have am:=kG D (kR ah ad);clear f a6 bc ah ad D y bu;go_wp2;go_roundw
   case rel=>exact⟨j+1,t,m+32+1,u,kH,by go_num,kH,rfl,am.out.2.2,am.out.2.1,am.out.1⟩
   case measure=>simp[intOf];omega
  ·have e:j=K.ni:=kH;subst e;have ba:wr.cell? ⟨w.1.size,1,none⟩=some (.slice v.oa K.no v.oc):=by rw[(s.out.1.keeps r kN).cell];rfl
   have a2:=l.size;have ap:=kG q (kR p r);clear a9 z l p r;go_wp2_with (at_builtin;refine db rfl _ _ rfl B E m G (xs++dI K K.ni) rfl ?own _ 1 1 [(K.no:Int)] rfl ?bs ?len ?B ?_)
   case own=>exact rc q _
   case bs=>exact cZ wr _ kH kH
   case len=>omega
   case B=>simp;omega
   intro V X T f F M;have k:=(ap.out.2.2.alloc _).trans (mJ (rc q _) M);have ab:=(ap.out.2.1.alloc kH _).trans F;replace f:Own B T V (m+1) X (xs++fE K 0):=by
    rw[sQ];simpa only[k5]using f
   have bH:T.cell? ⟨w.1.size,1,none⟩=some (.slice v.oa K.no v.oc):=by rw[(s.out.1.keeps k kN).cell];rfl
   have y:=kG f (kR ab k);clear q F M k ab f ba ap;go_wp2;go_loopw [1,44] (fun o i a1=> ∃j t h u,j<=K.no/\i= .int .i64 (j:Nat)/\h=m+1+8*j/\o= .slice t h u/\Below B U a1/\Keeps U a1/\Own B a1 t h u (xs++fE K j)) (fun _ i _=>K.no-(intOf i).toNat)
   case atStart=>exact⟨0,V,m+1,X,kX _,rfl,rfl,rfl,y.out.2.1,y.out.2.2,y.out.1⟩
   case round=>
    obtain⟨j,t,h,u,bw,rfl,bh,rfl,p,r,q⟩:=hrel;have bS:h<=m+1+8*j:=kH;have bY:m+1+8*j<=h:=kH;clear bh;have l:=s.out.2.1.trans p;have z:=ar wr l;by_cases d:j<K.no
    ·obtain⟨b,off,Y,be,bb⟩:=z.outN j d;rw[Y];have bg:(j:Int)< (K.no:Int):=kH;have bf:(0:Int)<=(j:Int):=kH;have b5:=H.out j d;have a2:=l.size;have I:=rD B t h u (xs++fE K j) (K.V j) 8 wr q kH kH kH kH kH;go_wp2_with fail;refine I.mono ?_;rintro e a0 ⟨J,L,rfl,W,C,g⟩;replace g:Own B a0 J (h+8) L (xs++fE K (j+1)):=by
      rw[sJ];simpa only[k5]using g
     have an:=kG g (kR (p.trans W) (r.trans C));clear I g W C p r q l z bb;go_wp2;go_roundw
     case rel=>exact⟨j+1,J,h+8,L,kH,by go_num,kH,rfl,an.out.2.1,an.out.2.2,an.out.1⟩
     case measure=>simp[intOf];omega
    ·have e:j=K.no:=kH;subst e;have bN:wr.cell? ⟨w.1.size,2,none⟩=some (.int .i64 K.h):=by rw[(s.out.1.keeps r kN).cell];rfl
     have a2:=l.size;have I:=rD B t h u (xs++fE K K.no) K.h 4 wr q kH kH kH kH kH;go_wp2_with fail;refine I.mono ?_;rintro e a0 ⟨J,L,rfl,W,C,g⟩;replace g:Own B a0 J (h+4) L (xs++fF K):=by
      rw[fF];simpa only[k5]using g
     clear I;go_wp2;go_ret;exact⟨J,h+4,L,by rw[bn.out];omega,rfl,s.out.2.1.trans (p.trans W),s.out.2.2.trans (r.trans C),g⟩
theorem Ie(v K w)(H:RTx w v K)(D:K.ni<=1048576)(C:K.no<=1048576):
 Calls prog 170 #[dM v K] w fun e w'=> ∃a c,e= .returned (.tuple #[.slice a (bT K).length c,.bool (aF K)])/\Below w.1.size w w'/\Own w.1.size w' a (bT K).length c (bT K):=by
 unfold dM;have i:=ao w 121 (txc v K).toArray;have m:=bAl w (.cells (txc v K).toArray 121);have z:(w.alloc (.cells (txc v K).toArray 121)).cell? ⟨w.1.size,0,none⟩=some (.slice v.ia K.ni v.ic):=by rw[i.cell];rfl
 have A:(w.alloc (.cells (txc v K).toArray 121)).cell? ⟨w.1.size,1,none⟩=some (.slice v.oa K.no v.oc):=by rw[i.cell];rfl
 have j:(w.alloc (.cells (txc v K).toArray 121)).cell? ⟨w.1.size,2,none⟩=some (.int .i64 K.h):=by rw[i.cell];rfl
 go_enter func170,ntmps170;go_upto_region 1 with fail
 change Code.wp _ _ _ _ (w.alloc (.cells (txc v K).toArray 121));generalize w.alloc (.cells (txc v K).toArray 121)=G at*;have u:Hid (Blk G 121 w.1.size (txc v K)):=i;clear i;go_wp2_with fail;refine(xI v K G (H.below m) D C).mono ?_;rintro e w1 ⟨rfl,r⟩;have b:=m.trans (r.mono m.size);have d:=u.out.below r;clear z A j;by_cases g:aF K=true
 ·have d0:w1.cell? ⟨w.1.size,0,none⟩=some (.slice v.ia K.ni v.ic):=by rw[d.cell];rfl
  have J:w1.cell? ⟨w.1.size,1,none⟩=some (.slice v.oa K.no v.oc):=by rw[d.cell];rfl
  have L:w1.cell? ⟨w.1.size,2,none⟩=some (.int .i64 K.h):=by rw[d.cell];rfl
  have F:=b.size;have n:=Id w1.1.size none 0 0 [] v K w1 (gR _ _) kE kH (fun w' B=>(H.below b).below B) (jJ g);have h:Hid (aF K=true):=g;clear d;rw[g];go_wp2_with fail;refine n.mono ?_;rintro e E ⟨q,s,j,k,rfl,y,I,l⟩;have p:Hid (s=(bT K).length):=by show _= _;rw[kM h.out];simpa using k
  have x:Hid (Own w1.1.size E q s j (bT K)):=by show Own _ _ _ _ _ _;rw[kM h.out];simpa using l
  clear n k l;go_wp2
  go_ret2
  exact⟨q,j,by rw[<-p.out,h.out];rfl,b.trans (y.mono b.size),by have:=Own.mono x.out F;rw[<-p.out];exact this⟩
 ·have f:aF K=false:=by simpa using g
  have o:Hid (bT K=[]):=po f;have t:Hid (aF K=false):=f;clear d;rw[f];go_wp2
  go_ret2
  exact⟨none,0,by rw[o.out,t.out];rfl,b,by rw[o.out];exact gR _ _⟩
theorem pp{B w a n c l}(h:Own B w a n c l)(k:0<n):∃g,a=some ⟨g,0,none⟩/\B<=g/\g<w.1.size:=by
 rcases h.2 with⟨_,j⟩|⟨g,f,i,e,b,d,_⟩
 ·omega
 ·cases e;exact⟨g,rfl,b,(k6.1 d).1⟩
theorem RTx.inId{w v K b off}(H:RTx w v K)(e:v.ia=some ⟨b,off,none⟩)(i)(a:i<K.ni):(Instr.loadAt 32 (.pointer (some ⟨b,off+i*33,none⟩))).run prog w= .ok (.agg (ob (K.P i).1).toArray) w:=by
 have s:(prog.info? 32).map (·.size)=some (ob (K.P i).1).length:=by rw[au,H.pts.len i a];exact aJ
 simp only[Instr.loadAt,Instr.sureAddr,q9,r2,Result.andThen];exact iM w b (off+i*33) 32 (ob (K.P i).1) _ (fun j c h=>H.inCells e i a j c (vx _ j c h)) qa rfl s
theorem xJ(v K w)(H:RTx w v K)(dF:K.ni<=1048576)(dE:K.no<=1048576):
 Calls prog 164 #[dM v K] w fun e w'=> ∃a c,e= .returned (.tuple #[.slice a (bT K).length c,.bool (aF K)])/\Below w.1.size w w'/\Own w.1.size w' a (bT K).length c (bT K):=by
 unfold dM;have bn:=ao w 121 (txc v K).toArray;have b1:=bAl w (.cells (txc v K).toArray 121);have dy:(w.alloc (.cells (txc v K).toArray 121)).cell? ⟨w.1.size,0,none⟩=some (.slice v.ia K.ni v.ic):=by rw[bn.cell];rfl
 have dA:(w.alloc (.cells (txc v K).toArray 121)).cell? ⟨w.1.size,1,none⟩=some (.slice v.oa K.no v.oc):=by rw[bn.cell];rfl
 have F:(w.alloc (.cells (txc v K).toArray 121)).cell? ⟨w.1.size,2,none⟩=some (.int .i64 K.h):=by rw[bn.cell];rfl
 go_enter func164,ntmps164;go_upto_region 1 with fail
 change Code.wp _ _ _ _ (w.alloc (.cells (txc v K).toArray 121));generalize w.alloc (.cells (txc v K).toArray 121)=d5 at*;have cz:Hid (Blk d5 121 w.1.size (txc v K)):=bn;clear bn;go_wp2_with fail;refine(Hy v K d5 (H.below b1) dF dE).mono ?_;rintro e w1 ⟨rfl,cp⟩;have D:=b1.trans (cp.mono b1.size);have V:=cz.out.below cp;clear dy dA F cz cp b1;by_cases aw:aF K=true
 case neg=>
  have ac:aF K=false:=by simpa using aw
  have cx:Hid (bT K=[]):=po ac;have dl:Hid (aF K=false):=ac;clear V;rw[ac];go_wp2
  go_ret2
  exact⟨_,0,by rw[cx.out,dl.out];rfl,D.alloc D.size _,by rw[cx.out];exact dZ w1 [] 0 rfl kH _ D.size⟩
 case pos=>
 have a1:=jJ aw;have bt:=H.pts;have ek:=a1.ni;have em:=a1.no;have en:=a1.h0;have ep:=a1.h1;have dn:Hid _:=pm bt;have a8:Hid (aF K=true):=aw;have a9:=H.below D;have d0:w1.cell? ⟨w.1.size,0,none⟩=some (.slice v.ia K.ni v.ic):=by rw[V.cell];rfl
 have U:=V.lt;have eb:IntKind.u8.wrap (K.ni:Int)=(K.ni:Int):=kL _ kH;have ef:IntKind.u8.wrap (K.no:Int)=(K.no:Int):=kL _ kH;have a0:Hid (Blk w1 121 w.1.size (txc v K)/\Below w.1.size w w1):=⟨V,D⟩;clear V D;rw[aw];go_wp2;go_loopw [4,5] (fun o i wr=> ∃j Y m F,j<=K.ni/\i= .int .i64 (j:Nat)/\m=1+33*j/\o= .slice Y m F/\Below w1.1.size w1 wr/\Own w1.1.size wr Y m F (dI K j)) (fun _ i _=>K.ni-(intOf i).toNat)
 case atStart=>exact⟨0,_,1,1,kX _,rfl,rfl,rfl,bAl _ _,by rw[sK];exact dZ w1 [(K.ni:Int)] 1 rfl kH _ kE⟩
 case round=>
  obtain⟨j,Y,m,F,dD,rfl,c1,rfl,s,C⟩:=hrel;have d7:m<=1+33*j:=kH;have d8:1+33*j<=m:=kH;clear c1;have a2:=s.size;have R:∀i:Nat,wr.cell? ⟨w.1.size,i,none⟩=(txc v K)[i]?:=fun i=>by rw[s.cell (p:=⟨w.1.size,i,none⟩) U];exact a0.out.1.cell i
  have bi:wr.cell? ⟨w.1.size,0,none⟩=some (.slice v.ia K.ni v.ic):=R 0;by_cases u:j<K.ni
  ·obtain⟨b,off,ab,ci,bh⟩:=a9.inN j u;have c0:=bt.len j u;have T:=bt.byte j u;have dG:=a1.pt j u;have r:Hid (∀bw:World,Below w1.1.size wr bw->bw.cell? ⟨w.1.size,0,none⟩=some (.slice (some ⟨b,off,none⟩) K.ni v.ic)/\(Instr.loadAt 32 (.pointer (some ⟨b,off+j*33,none⟩))).run prog bw= .ok (.agg (ob (K.P j).1).toArray) bw/\bw.cell? ⟨b,off+j*33+32,none⟩=some (.int .i64 (K.P j).2)):=fun bw cu=>
    ⟨by rw[cu.cell (p:=⟨w.1.size,0,none⟩) U,<-ab];exact bi,(a9.below (s.trans cu)).inId ab j u,by rw[(s.trans cu).cell (p:=⟨b,off+j*33+32,none⟩) ci];exact bh⟩
   obtain⟨f,z⟩:∃f,f=(K.P j).2:=⟨_,rfl⟩;rw[<-z]at r bh dG;have ct:Hid ((K.P j).2=f):=z.symm;clear z;rw[ab]at bi;clear ab;have eh:IntKind.u8.wrap f=f:=kL _ kH;have cV:(j:Int)< (K.ni:Int):=kH;have cT:(0:Int)<=(j:Int):=kH;obtain⟨B,bl⟩:∃B,B=w1.1.size:=⟨_,rfl⟩;rw[<-bl]at s C r a2 U;have aX:Hid (Below B w1 wr/\B=w1.1.size):=⟨s,bl⟩;clear s bl R bh;go_upto_region 7 with fail
   have z:=ct.out;refine ay (fun bw=>bw.cell? ⟨w.1.size,0,none⟩=some (.slice (some ⟨b,off,none⟩) K.ni v.ic)/\(Instr.loadAt 32 (.pointer (some ⟨b,off+j*33,none⟩))).run prog bw= .ok (.agg (ob (K.P j).1).toArray) bw/\bw.cell? ⟨b,off+j*33+32,none⟩=some (.int .i64 f)) (fun j=>decide (17<=j)) kO ?_;have n:=r.out wr.drew kF.drew;have cn:=Own.below C (kF.drew);have cb:Below B wr wr.drew:=kF.drew;have eq:wr.drew.1.size<=wr.1.size/\wr.1.size<=wr.drew.1.size:=⟨kE,kE⟩;clear C;generalize wr.drew=t at*;refine aa 0 n ?_;refine aa 1 n ?_;refine aa 2 n ?_;refine aa 3 n ?_;refine aa 4 n ?_;refine aa 5 n ?_;refine aC 6 (.agg (ob (K.P j).1).toArray) n ?hyk6 ?_
   case hyk6=>exact fun w cP=>bO (p:= .pointer (some ⟨b,off+j*33,none⟩)) rfl rfl cP.2.1
   refine aa 9 n ?_;refine aa 10 n ?_;refine aa 11 n ?_;refine aa 12 n ?_;refine aa 13 n ?_;refine aa 14 n ?_;refine aa 15 n ?_;clear n;refine cI 7 16 kO rfl rfl (fun h d=> ?wf) (fun h d=> ?ws)
   case wf=>
    rw[qb (show Region.wanted _ _=true from rfl)];go_wp2_with fail;refine(gj (K.P j).1 _ c0 T).mono ?_;rintro e q ⟨co,b3,rfl,Q,ad⟩;obtain⟨b6,rfl,cR,cS⟩:∃g,co=some ⟨g,0,none⟩/\t.1.size<=g/\g<q.1.size:=pp ad kH;have bc:=cn.below Q;have X:=cb.trans (Q.mono kH);have bx:=Own.mono ad (show B<=t.1.size by omega);clear Q ad;go_wp2_with fail;refine d.out _ _ (fun _=>r.out _ X) ?_;clear d h;refine cI 8 16 kO rfl rfl (fun h d=> ?p1f) (fun h d=> ?p1s)
    case p1f=>
     refine fO rfl _ _ rfl B Y m F (dI K j) rfl bc b6 32 b3 (K.P j).1 rfl (bx.bs T) kH kH ?_;intro bY b4 l bz ai dc;have I:=X.trans ai;have c7:=ai.size;refine d.out _ _ (fun _=>r.out _ I) ?_;clear d h;refine aT 16 kO rfl (fun h d=> ?_);go_simp;have G:=bAl l (.cells #[Value.int IntKind.u8 f] 5);have bN:Own B (l.alloc (.cells #[Value.int IntKind.u8 f] 5)) (some ⟨l.1.size,0,none⟩) 1 1 [f]:=dZ l [f] 1 rfl kH B kH;have bE:=bz.below G;have J:=I.trans (G.mono kH);have c8:(l.alloc (.cells #[Value.int IntKind.u8 f] 5)).1.size<=l.1.size+1/\l.1.size+1<=(l.alloc (.cells #[Value.int IntKind.u8 f] 5)).1.size:=by simp
     clear G;generalize (l.alloc (.cells #[Value.int IntKind.u8 f] 5))=dd at*;refine d.out _ _ (fun _=>r.out _ J) ?_;clear d h;refine aT 17 kO rfl (fun h d=> ?_);refine fO rfl _ _ rfl B bY (m+32) b4 (dI K j++(K.P j).1) rfl bE (l.1.size) 1 1 [f] rfl (Own.bs bN (fw kH kH)) kH kH ?_;intro ag ap aH ae ak b7;have L:=J.trans ak;refine al d ?_;clear d h;refine aT 18 kO rfl (fun h d=> ?_);go_simp;refine al d ?_;clear d h;refine ax ?_;have P:Hid (Own w1.1.size aH ag (m+32+1) ap (dI K (j+1))/\Below w1.1.size w1 aH):=by
      have bj:=aX.out.1.trans L;have bk:=aX.out.2;subst bk;refine⟨?_,bj⟩;rw[mS,z];exact ae
     clear L ae ak b7;go_wp2;go_roundw
     case rel=>exact⟨j+1,ag,m+32+1,ap,kH,by go_num,kH,rfl,P.out.2,P.out.1⟩
     case measure=>simp[intOf];omega
    case p1s=>
     go_simp;have x:=bAl q (.cells #[Value.int IntKind.u8 f] 5);have bP:Own B (q.alloc (.cells #[Value.int IntKind.u8 f] 5)) (some ⟨q.1.size,0,none⟩) 1 1 [f]:=dZ q [f] 1 rfl kH B kH;have bF:=bc.below x;have M:=X.trans (x.mono kH);have a7:=bx.below x;have c9:(q.alloc (.cells #[Value.int IntKind.u8 f] 5)).1.size<=q.1.size+1/\q.1.size+1<=(q.alloc (.cells #[Value.int IntKind.u8 f] 5)).1.size:=by simp
     have bb:=fun k cs=>(qX bc k cs).2;clear x;generalize (q.alloc (.cells #[Value.int IntKind.u8 f] 5))=df at*;refine d.out _ _ (fun _=>r.out _ M) ?_;clear d h;refine aT 8 kO rfl (fun h d=> ?_);refine fO rfl _ _ rfl B Y m F (dI K j) rfl bF b6 32 b3 (K.P j).1 rfl (a7.bs T) kH kH ?_;intro b0 b5 ca bH am b8;have N:=M.trans am;have da:=am.size;have bR:Own B ca (some ⟨q.1.size,0,none⟩) 1 1 [f]:=World.ownsRow.kept bP b8 (kT fun e=>oP _ (bb q.1.size e.symm));refine d.out _ _ (fun _=>r.out _ N) ?_;clear d h;refine aT 17 kO rfl (fun h d=> ?_);refine fO rfl _ _ rfl B b0 (m+32) b5 (dI K j++(K.P j).1) rfl bH (q.1.size) 1 1 [f] rfl (Own.bs bR (fw kH kH)) kH kH ?_;intro ah ar aO af an b9;have O:=N.trans an;refine al d ?_;clear d h;refine aT 18 kO rfl (fun h d=> ?_);go_simp;refine al d ?_;clear d h;refine ax ?_;have P:Hid (Own w1.1.size aO ah (m+32+1) ar (dI K (j+1))/\Below w1.1.size w1 aO):=by
      have bj:=aX.out.1.trans O;have bk:=aX.out.2;subst bk;refine⟨?_,bj⟩;rw[mS,z];exact af
     clear O af an b9;go_wp2;go_roundw
     case rel=>exact⟨j+1,ah,m+32+1,ar,kH,by go_num,kH,rfl,P.out.2,P.out.1⟩
     case measure=>simp[intOf];omega
   case ws=>
    go_simp;have bu:=bAl t (.cells #[Value.int IntKind.u8 f] 5);have cD:Own B (t.alloc (.cells #[Value.int IntKind.u8 f] 5)) (some ⟨t.1.size,0,none⟩) 1 1 [f]:=dZ t [f] 1 rfl kH B kH;have cA:=cn.below bu;have a3:=cb.trans (bu.mono kH);have d3:(t.alloc (.cells #[Value.int IntKind.u8 f] 5)).1.size<=t.1.size+1/\t.1.size+1<=(t.alloc (.cells #[Value.int IntKind.u8 f] 5)).1.size:=by simp
    have cm:=fun k cs=>(qX cn k cs).2;clear bu;generalize (t.alloc (.cells #[Value.int IntKind.u8 f] 5))=ck at*;refine d.out _ _ (fun _=>r.out _ a3) ?_;clear d h;refine aj 7 fun h d=> ?_;go_wp2_with fail;refine(gj (K.P j).1 _ c0 T).mono ?_;rintro e c3 ⟨co,b3,rfl,Q,ad⟩;obtain⟨b6,rfl,cR,cS⟩:∃g,co=some ⟨g,0,none⟩/\ck.1.size<=g/\g<c3.1.size:=pp ad kH;have cB:=cA.below Q;have a4:=a3.trans (Q.mono kH);have cE:=Own.below cD Q;have bx:=Own.mono ad (show B<=ck.1.size by omega);clear Q ad;go_wp2_with fail;refine d.out _ _ (fun _=>r.out _ a4) ?_;clear d h;refine aT 8 kO rfl (fun h d=> ?_);refine fO rfl _ _ rfl B Y m F (dI K j) rfl cB b6 32 b3 (K.P j).1 rfl (bx.bs T) kH kH ?_;intro cG cL c4 cC ce cM;have a5:=a4.trans ce;have d4:=ce.size;have cF:Own B c4 (some ⟨t.1.size,0,none⟩) 1 1 [f]:=World.ownsRow.kept cE cM (kT fun e=>oP _ (cm t.1.size e.symm));refine d.out _ _ (fun _=>r.out _ a5) ?_;clear d h;refine aT 17 kO rfl (fun h d=> ?_);refine fO rfl _ _ rfl B cG (m+32) cL (dI K j++(K.P j).1) rfl cC (t.1.size) 1 1 [f] rfl (Own.bs cF (fw kH kH)) kH kH ?_;intro cd cg cl cc cf cO;have a6:=a5.trans cf;refine al d ?_;clear d h;refine aT 18 kO rfl (fun h d=> ?_);go_simp;refine al d ?_;clear d h;refine ax ?_;have P:Hid (Own w1.1.size cl cd (m+32+1) cg (dI K (j+1))/\Below w1.1.size w1 cl):=by
     have bj:=aX.out.1.trans a6;have bk:=aX.out.2;subst bk;refine⟨?_,bj⟩;rw[mS,z];exact cc
    clear a6 cc cf cO;go_wp2;go_roundw
    case rel=>exact⟨j+1,cd,m+32+1,cg,kH,by go_num,kH,rfl,P.out.2,P.out.1⟩
    case measure=>simp[intOf];omega
  ·have e:j=K.ni:=kH;subst e;have S:wr.cell? ⟨w.1.size,1,none⟩=some (.slice v.oa K.no v.oc):=R 1;clear R;go_wp2_with (at_builtin;refine db rfl _ _ rfl w1.1.size Y m F (dI K K.ni) rfl ?own _ 1 1 [(K.no:Int)] rfl ?bs ?len ?B ?_)
   case own=>exact rc C _
   case bs=>exact cZ wr _ kH kH
   case len=>omega
   case B=>first|omega|(simp;omega)
   intro ds dB dW bq cH dC;have be:=(s.alloc a2 _).trans cH;have d6:dW.cell? ⟨w.1.size,1,none⟩=some (.slice v.oa K.no v.oc):=by rw[be.cell (p:=⟨w.1.size,1,none⟩) U,a0.out.1.cell];rfl
   rw[<-sQ]at bq;have cv:=kG bq be;clear C cH dC be bq S bi s a2;go_wp2;go_loopw [4,6] (fun o i c6=> ∃j bd A bg,j<=K.no/\i= .int .i64 (j:Nat)/\A=m+1+8*j/\o= .slice bd A bg/\Below w1.1.size w1 c6/\Own w1.1.size c6 bd A bg (fE K j)) (fun _ i _=>K.no-(intOf i).toNat)
   case atStart=>exact⟨0,ds,m+1,dB,kX _,rfl,rfl,rfl,cv.out.2,cv.out.1⟩
   case round=>
    obtain⟨j,bd,A,bg,dD,rfl,c2,rfl,s,C⟩:=hrel;have d9:A<=m+1+8*j:=kH;have ea:m+1+8*j<=A:=kH;clear c2;have a2:=s.size;have R:∀i:Nat,wr.cell? ⟨w.1.size,i,none⟩=(txc v K)[i]?:=fun i=>by rw[s.cell (p:=⟨w.1.size,i,none⟩) U];exact a0.out.1.cell i
    have S:wr.cell? ⟨w.1.size,1,none⟩=some (.slice v.oa K.no v.oc):=R 1;have ch:wr.cell? ⟨w.1.size,2,none⟩=some (.int .i64 K.h):=R 2;clear R;by_cases u:j<K.no
    ·obtain⟨b,off,ab,ci,bh⟩:=(a9.below s).outN j u;rw[ab]at S;clear ab;have cV:(j:Int)< (K.no:Int):=kH;have cT:(0:Int)<=(j:Int):=kH;have ej:=a1.out j u;have ba:=i8 (K.V j) 8 wr kH kH kH;go_wp2_with fail;refine ba.mono ?_;rintro e d1 ⟨dv,cq,rfl,Z,W⟩;have bp:=Own.below C Z;have y:=s.trans (Z.mono a2);have d2:=y.size;have bv:=Own.bs W (fL _ _);clear ba W Z s C bh S ch;go_wp2_with (at_builtin;refine db rfl _ _ rfl w1.1.size bd A bg (fE K j) rfl bp _ 8 cq (num (K.V j) 8) rfl bv ?len ?B ?_)
     case len=>omega
     case B=>omega
     intro bS b2 c5 E bf cr;rw[<-sJ]at E;have cw:=kG E (y.trans bf);clear E bf cr y bp bv;go_wp2;go_roundw
     case rel=>exact⟨j+1,bS,A+8,b2,kH,by go_num,kH,rfl,cw.out.2,cw.out.1⟩
     case measure=>simp[intOf];omega
    ·have e:j=K.no:=kH;subst e;have ba:=i8 K.h 4 wr kH kH kH;go_wp2_with fail;refine ba.mono ?_;rintro e d1 ⟨dv,cq,rfl,Z,W⟩;have bp:=Own.below C Z;have y:=s.trans (Z.mono a2);have d2:=y.size;have bv:=Own.bs W (fL _ _);clear ba W Z s C S ch;go_wp2_with (at_builtin;refine db rfl _ _ rfl w1.1.size bd A bg (fE K K.no) rfl bp _ 4 cq (num K.h 4) rfl bv ?len ?B ?_)
     case len=>omega
     case B=>omega
     intro bS b2 c5 E bf cr;have cy:Hid (A+4=(bT K).length):=by show _= _;rw[kM a8.out,dn.out];omega
     have dr:Hid (Own w1.1.size c5 bS (A+4) b2 (bT K)):=by show Own _ _ _ _ _ _;rw[kM a8.out,fF];exact E
     have dx:=a0.out.2.trans ((y.trans bf).mono a0.out.2.size);clear E bf cr y bp bv;go_wp2
     go_ret2
     exact⟨bS,b2,by rw[<-cy.out,a8.out];rfl,dx,by have:=Own.mono dr.out a0.out.2.size;rw[<-cy.out];exact this⟩
def pq(a b:TxV)(Ka Kb:TxK):Prop:=(∀k,(Value.slice a.ia Ka.ni a.ic).ownBlock=some k->(Value.slice b.ia Kb.ni b.ic).ownBlock≠some k)/\(∀k,(Value.slice a.oa Ka.no a.oc).ownBlock=some k->(Value.slice b.oa Kb.no b.oc).ownBlock≠some k)
def bU(tv:Nat->TxV)(K:Nat->TxK):Nat->List Value:=fun i=>txc (tv i) (K i)
theorem If(c K n):IsRow 3 (bU c K) n:=⟨fun i b=>rfl,fun i b d a=>by simp[bU,txc]at a;rcases a with rfl|rfl|rfl<;>rfl⟩
structure RTxs(w:World)(a:Option Addr)(n c:Nat)(tv:Nat->TxV)(K:Nat->TxK):Prop where
 row:RRow w 3 a n c (bU tv K)
 each:∀i,i<n->RTx w (tv i) (K i)
structure OTxs(B:Nat)(w:World)(a:Option Addr)(n c:Nat)(tv:Nat->TxV)(K:Nat->TxK):Prop where
 row:ORow 121 3 B w a n c (bU tv K)
 each:∀i,i<n->OTx B w (tv i) (K i)
 sep:∀i j,i<j->j<n->pq (tv i) (tv j) (K i) (K j)
theorem RTxs.below{w w' a n c d K}(h:RTxs w a n c d K)(b:Below w.1.size w w'):RTxs w' a n c d K:=⟨h.row.below b,fun i e=>(h.each i e).below b⟩
theorem OTxs.below{B w w' a n c d K}(h:OTxs B w a n c d K)(b:Below w.1.size w w'):OTxs B w' a n c d K:=⟨h.row.below b,fun i e=>(h.each i e).below b,h.sep⟩
theorem OTxs.mono{B b w a n c e K}(h:OTxs B w a n c e K)(d:b<=B):OTxs b w a n c e K:=⟨h.row.mono d,fun i f=>(h.each i f).mono d,h.sep⟩
theorem OTxs.reads{B w a n c b K}(h:OTxs B w a n c b K):RTxs w a n c b K:=⟨h.row.reads (If _ _ _),fun i d=>(h.each i d).reads⟩
theorem OTxs.only{g B w w' a n c d K}(H:OTxs B w a n c d K)(h:OnlyB g w w')(b:g<B):OTxs B w' a n c d K:=⟨H.row.only h b,fun i e=>(H.each i e).only h b,H.sep⟩
structure BlV where
 ta:Option Addr
 tc:Nat
 tv:Nat->TxV
structure BlK where
 prev:List Int
 root:List Int
 h:Int
 nt:Nat
 tx:Nat->TxK
structure BlOk(K:BlK):Prop where
 pl:K.prev.length=32
 rl:K.root.length=32
 pB:IsB K.prev
 rB:IsB K.root
def blc(v:BlV)(K:BlK):List Value:=ob K.prev++(ob K.root++[.int .i64 K.h,.slice v.ta K.nt v.tc])
def cK(v:BlV)(K:BlK):Value:= .agg (blc v K).toArray
theorem eO(v){K}(a:BlOk K):(blc v K).length=66:=by simp[blc,au,a.pl,a.rl]
theorem Ig(v K):∀b∈blc v K,b.oneCell'=true:=by
 intro b a;simp only[blc,mx,l3,List.not_mem_nil,or_false]at a;rcases a with a|a|rfl|rfl
 ·exact ev _ b a
 ·exact ev _ b a
 ·rfl
 ·rfl
theorem lQ(v K):∀(j:Nat)(a:Value),(ob K.prev)[j]?=some a->(blc v K)[j]?=some a:=fun j a h=>by
 unfold blc;rw[l7 ((lb.1 h).1)];exact h
theorem pr(v){K}(a:BlOk K):∀(j:Nat)(b:Value),(ob K.root)[j]?=some b->(blc v K)[32+j]?=some b:=fun j b h=>by
 unfold blc;rw[m4 (by rw[au,a.pl];omega),au,a.pl,show 32+j-32=j by omega,l7 ((lb.1 h).1)];exact h
theorem iX(v){K}(a:BlOk K):(blc v K)[64]?=some (.int .i64 K.h):=by
 unfold blc;rw[m4 (by rw[au,a.pl];omega),au,a.pl,m4 (by rw[au,a.rl];omega),au,a.rl]
 rfl
theorem jm(v){K}(a:BlOk K):(blc v K)[65]?=some (.slice v.ta K.nt v.tc):=by
 unfold blc;rw[m4 (by rw[au,a.pl];omega),au,a.pl,m4 (by rw[au,a.rl];omega),au,a.rl]
 rfl
structure RBl(w:World)(v:BlV)(K:BlK):Prop where
 ok:BlOk K
 txs:RTxs w v.ta K.nt v.tc v.tv K.tx
structure OBl(B:Nat)(w:World)(v:BlV)(K:BlK):Prop where
 ok:BlOk K
 txs:OTxs B w v.ta K.nt v.tc v.tv K.tx
theorem RBl.below{w w' v K}(h:RBl w v K)(a:Below w.1.size w w'):RBl w' v K:=⟨h.ok,h.txs.below a⟩
theorem OBl.below{B w w' v K}(h:OBl B w v K)(a:Below w.1.size w w'):OBl B w' v K:=⟨h.ok,h.txs.below a⟩
theorem OBl.mono{B a w v K}(h:OBl B w v K)(b:a<=B):OBl a w v K:=⟨h.ok,h.txs.mono b⟩
theorem OBl.reads{B w v K}(h:OBl B w v K):RBl w v K:=⟨h.ok,h.txs.reads⟩
theorem fG:(prog.info? 113).map (·.size)=some 66:=kO
theorem lR:(prog.info? 121).map (·.size)=some 3:=kO
theorem Ih:(prog.info? 121).map (fun i=>(i.zero,i.size,i.bytes))=some (some (.agg txz.toArray),3,56):=kO
theorem lS(v K):(blc v K).toArray.all (·.oneCell')=true:=by
 rw[pn];intro b a;exact Ig v K b (by simpa using a)
theorem ii(v){K}(a:BlOk K):(blc v K).toArray.size=66:=by simp[eO v a]
def jK:BlK:=⟨List.replicate 32 0,List.replicate 32 0,0,0,fun _=>⟨0,fun _=>fy,0,fun _=>0,0⟩⟩
def iy:BlV:=⟨none,0,fun _=>⟨none,0,none,0⟩⟩
theorem Ii:BlOk jK:=⟨rfl,rfl,iL 32,iL 32⟩
def dU(l:List Int)(i:Nat):List Int×Int:=((l.drop (1+33*i)).take 32,l.getD (1+33*i+32) 0)
def inN(l:List Int):Nat:=(l.getD 0 0).toNat
def inE(l:List Int):Nat:=1+33*inN l
def outN(l:List Int):Nat:=(l.getD (inE l) 0).toNat
def gA(l:List Int)(i:Nat):Int:=fh ((l.drop (inE l+1+8*i)).take 8)
def fV(l:List Int):Nat:=inE l+1+8*outN l
def dk(l:List Int):Nat:=fV l+4
def txP(l:List Int):TxK:=⟨inN l,dU l,outN l,gA l,low ((l.drop (fV l)).take 4)⟩
theorem lT(l:List Int)(p j):(l.drop p).getD j 0=l.getD (p+j) 0:=by simp[List.getD,List.getElem?_drop]
theorem iz{l}(h:IsB l)(p):l.getD p 0=((l.getD p 0).toNat:Int)/\(l.getD p 0).toNat<256:=by
 have:=h p;omega
theorem Ij{l}(h:IsB l)(n)(b:1+33*n<=l.length):IsPts (dU l) n:=
 ⟨fun i a=>by simp[dU];omega,fun i a=>dR (ff h _) _⟩
def lU(g B:Nat)(l:List Int)(w:World)(e:Ending)(w':World):Prop:=
 OnlyB g w w'/\((dk l<=l.length/\∃v,e= .returned (dM v (txP l))/\OTx w.1.size w' v (txP l)/\Cur w' g B (l.drop (dk l)))\/(l.length<dk l/\e= .panicked aU))
theorem Ik(g B l w)(h:Cur w g B l)(cb:B<=w.1.size):
 Calls prog 168 #[.pointer (some ⟨g,0,none⟩)] w fun e w'=>lU g B l w e w':=by
 have cz:=h.lt;have a0:=h.byte;have k0:=ao w 121 txz.toArray;have bP:=ao (w.alloc (.cells txz.toArray 121)) 121 txz.toArray;have bn:=k0.below (kF.alloc kE (.cells txz.toArray 121));have bF:Below w.1.size w ((w.alloc (.cells txz.toArray 121)).alloc (.cells txz.toArray 121)):=eT w _ _;have ba:(w.alloc (.cells txz.toArray 121)).1.size=w.1.size+1:=by simp
 have cu:((w.alloc (.cells txz.toArray 121)).alloc (.cells txz.toArray 121)).1.size=w.1.size+1+1:=by simp
 rw[ba]at bP;go_enter func168,ntmps168;go_upto_region 2 with fail
 change Code.wp _ _ _ _ ((w.alloc (.cells txz.toArray 121)).alloc (.cells txz.toArray 121));generalize (w.alloc (.cells txz.toArray 121)).alloc (.cells txz.toArray 121)=bY at*;have F:Blk bY 121 w.1.size txz:=bn;have t:Blk bY 121 (w.1.size+1) txz:=bP;have R:=h.below bF;have bc:=Below.onlyB bF g;have Z2:w.1.size+1+1<=bY.1.size:=kH;clear k0 bP bn bF ba cu h;rcases nr l.length 1 with hk0|hk0
 ·have T:=ol g B l bY R kH;have z:Hid (∀w',OnlyB g bY w'->lU g B l w (.panicked aU) w'):=fun w' J=>⟨bc.trans J,kT ⟨by unfold dk fV inE;omega,rfl⟩⟩;clear F t R bc;go_wp2_with fail;refine q2 T ?_;rintro e w1 ⟨rfl,am⟩;go_wp2;exact⟨rfl,z.out _ am⟩
 have T:=mE g B l bY R hk0;obtain⟨be,a1⟩:=iz a0 0;rw[be]at T;change Calls _ _ _ _ (fun e w'=>e= .returned (.int .i64 (inN l:Int))/\_)at T;have d:=kG F (kR t bc);clear F t R bc;go_wp2_with fail;refine q2 T ?_;rintro e w1 ⟨rfl,am,b0⟩;have F:=d.out.1.only am kH;have t:=d.out.2.1.only am kH;have bt:=d.out.2.2.trans am;have bH:inN l<256:=a1;have ba:=k2 Z2 am.size;have E:=kG F (kR t (kR bt (kR b0 (kR ba (kR a0 (kR cb bH))))));clear d T am b0 F t bt Z2 ba be a1 cb a0;generalize bi:inN l=a5 at*;have ae:Hid _:=bi;clear bi;go_wp2;go_loopw [6] (fun i wr=> ∃j a c,j<=a5/\i= .int .i64 (j:Nat)/\1+33*j<=l.length/\OnlyB g w wr/\w.1.size+1+1<=wr.1.size/\Blk wr 121 w.1.size txz/\Blk wr 121 (w.1.size+1) [.slice a j c,.slice none 0 0,.int .i64 0]/\ORow 52 33 (w.1.size+1+1) wr a j c (dH (dU l))/\Cur wr g B (l.drop (1+33*j))) (fun i _=>a5-(intOf i).toNat)
 case atStart=>exact⟨0,none,0,kX _,rfl,kH,E.out.2.2.1,E.out.2.2.2.2.1,E.out.1,E.out.2.1,eU _ _ _ _ _,E.out.2.2.2.1⟩
 case round=>
  obtain⟨j,a,c,cA,rfl,cp,J,aO,F,t,U,aw⟩:=hrel;by_cases bh:j<a5
  ·have cs:wr.drew.cell? ⟨w.1.size+1,0,none⟩=some (.slice a j c):=t.cell 0;have Z:(j:Int)< (a5:Int):=kH;have Y:=bDr wr;have R:=aw.below Y;have cx:wr.drew.1.size=wr.1.size:=rfl;have b2:=E.out.2.2.2.2.2.2.1;have an:=E.out.2.2.2.2.2.1;have cd:=an (1+33*j+32);have d:=kG J (kR F (kR t U));have S:Hid (∀v,OnlyB g wr.drew v->v.cell? ⟨w.1.size+1,0,none⟩=some (.slice a j c)):=fun v bR=>(t.only ((Below.onlyB Y g).trans bR) kH).cell 0;have L:Hid (∀w',OnlyB g wr.drew w'->l.length<1+33*(j+1)->lU g B l w (.panicked aU) w'):=fun w' ak ai=>⟨d.out.1.trans ((Below.onlyB Y g).trans ak),kT ⟨by unfold dk fV inE;rw[ae.out];omega,rfl⟩⟩;clear J F t U aw;rcases nr (l.drop (1+33*j)).length 32 with m|m
   ·have ai:l.length<1+33*(j+1):=by rw[k3]at m;omega
    go_wp2_with fail;refine ay (fun v=>v.cell? ⟨w.1.size+1,0,none⟩=some (.slice a j c)) (fun k=>decide (8<=k)) kO ?_;refine aa 0 cs ?_;refine aa 1 cs ?_;refine aa 2 cs ?_;refine aa 4 cs ?_;refine aj 3 fun f b=> ?_;go_wp2_with fail;refine q2 (rj g B _ wr.drew R m) ?_;rintro e V ⟨rfl,I⟩;go_wp2;exact⟨rfl,L.out _ I ai⟩
   ·have ad:=oo g B _ wr.drew R kH m;obtain⟨p,a2⟩:∃p,p=dU l j:=⟨_,rfl⟩;have a3:p.1.length=32:=by rw[a2];simp only[dU];rw[lw];omega
    have bl:Hid (p.2=l.getD (1+33*j+32) 0):=by show p.2= _;rw[a2];rfl
    change Calls _ _ _ _ (fun e w'=>e= .returned (hA (dU l j).1)/\_)at ad;rw[<-a2,m0]at ad;rw[<-bl.out]at cd;have ch:Hid _:=a2;clear a2;have cc:1+33*j+32<=l.length:=by rw[k3]at m;omega
    go_wp2_with fail;refine ay (fun v=>v.cell? ⟨w.1.size+1,0,none⟩=some (.slice a j c)) (fun k=>decide (8<=k)) kO ?_;refine aa 0 cs ?_;refine aa 1 cs ?_;refine aa 2 cs ?_;refine aa 4 cs ?_;refine aj 3 fun f b=> ?_;go_wp2_with fail;refine q2 ad ?_;rintro e V ⟨rfl,I,aH⟩;clear ad;go_wp2_with fail;refine b.out _ _ (fun _=>S.out _ I) ?_;clear b f;rcases nr (l.drop (1+33*j+32)).length 1 with hk2|hk2
    ·have ai:l.length<1+33*(j+1):=by rw[k3]at hk2;omega
     refine aj 5 fun f b=> ?_;go_wp2_with fail;refine q2 (ol g B _ V aH hk2) ?_;rintro e G ⟨rfl,C⟩;go_wp2;exact⟨rfl,L.out _ (I.trans C) ai⟩
    ·have bx:=mE g B _ V aH hk2;rw[lT,m2,<-bl.out,m0]at bx;have ah:1+33*(j+1)<=l.length:=by rw[k3]at hk2;omega
     refine aj 5 fun f b=> ?_;go_wp2_with fail;refine q2 bx ?_;rintro e G ⟨rfl,C,W⟩;clear bx;go_wp2_with fail;refine b.out _ _ (fun _=>S.out _ (I.trans C)) ?_;clear b f;have u:=(Below.onlyB Y g).trans (I.trans C);have O:=d.out.2.1.only u kH;have A:=d.out.2.2.1.only u kH;have Q:=d.out.2.2.2.only u kH;have M:=d.out.1.trans u;have X:=k2 aO u.size;rw[show 1+33*j+32+1=1+33*(j+1)by omega]at W;have q3:=bAl G (.cells (pc p).toArray 52);clear I C aH R S L;refine aj 6 fun f b=> ?_;refine jV _ _ rfl (cs:=(pc p).toArray) ?hb ?_
     case hb=>
      simp only[k9,k4,k7];exact lH p.1 p.2 a3
     refine b.out _ _ (fun _=>by exact A.cell 0) ?_;clear b f;refine aj 7 fun f b=> ?_;refine fj _ _ _ rfl (v:= .slice (some ⟨G.1.size,0,none⟩) 1 1) (w':=G.alloc (.cells (pc p).toArray 52)) ?bs ?_
     case bs=>
      simp only[k9,k4,k7];exact gF kh kH (.agg (pc p).toArray) (pc p) rfl (dS p a3) G
     refine b.out _ _ (fun _=>(A.below q3).cell 0) ?_;clear b f;refine aj 8 fun f b=> ?_;refine jv _ _ kh rfl (w.1.size+1+1) a j c (dH (dU l)) rfl Q (pc p) (dS p a3) (kf p) rfl kH kH X ?_;intro r s n ab K _;refine al b ?_;clear b f;replace ab:=ab.congr (f':=dH (dU l)) (fun i co=>by
      by_cases e:i=j
      ·subst e;rw[fJ,ch.out];rfl
      ·rw[iE _ _ kH])
     have P:Blk n 121 w.1.size txz:=(K.block _ kH).trans O;have D:Blk n 121 (w.1.size+1) [.slice a j c,.slice none 0 0,.int .i64 0]:=(K.block _ kH).trans A;have ac:=W.belowB K kH kH;have N:=M.thenN K kH;have ar:=k2 X K.size;have ci:=D.cell 0;have cm:=D.free 0;have y:=aB n (w.1.size+1) 0 (.slice r (j+1) s);have z:Hid (OnlyB g w (n.setCell ⟨w.1.size+1,0,none⟩ (.slice r (j+1) s))/\w.1.size+1+1<=(n.setCell ⟨w.1.size+1,0,none⟩ (.slice r (j+1) s)).1.size/\Blk (n.setCell ⟨w.1.size+1,0,none⟩ (.slice r (j+1) s)) 121 w.1.size txz/\Blk (n.setCell ⟨w.1.size+1,0,none⟩ (.slice r (j+1) s)) 121 (w.1.size+1) [.slice r (j+1) s,.slice none 0 0,.int .i64 0]/\ORow 52 33 (w.1.size+1+1) (n.setCell ⟨w.1.size+1,0,none⟩ (.slice r (j+1) s)) r (j+1) s (dH (dU l))/\Cur (n.setCell ⟨w.1.size+1,0,none⟩ (.slice r (j+1) s)) g B (l.drop (1+33*(j+1)))):=
      ⟨N.thenN (y.below kE kH) kH,k2 ar y.size,P.only y kH,D.set 0 _,ab.only y kH,ac.only y kH kH⟩
     clear O A Q M P D W ac N ab K q3 y u d;refine aj 9 fun f b=> ?_;go_wp2_with fail;refine al b ?_;clear b f;refine aj 10 fun f b=> ?_;go_wp2_with fail;refine al b ?_;clear b f;refine ax ?_;clear ci cm cs;go_wp2;go_roundw
     case rel=>exact⟨j+1,r,s,kH,by go_num,ah,z.out⟩
     case measure=>simp[intOf];omega
  ·obtain rfl:j=a5:=kH;have Z:¬((j:Int)< (j:Int)):=kH;have b2:=E.out.2.2.2.2.2.2.1;have an:=E.out.2.2.2.2.2.1;have aX:Hid (inE l=1+33*j):=by show inE l= _;unfold inE;rw[ae.out]
   rcases nr (l.drop (1+33*j)).length 1 with m|m
   ·have H:=ol g B _ wr aw m;have z:Hid (∀w',OnlyB g wr w'->lU g B l w (.panicked aU) w'):=fun w' ak=>⟨J.trans ak,kT ⟨by rw[k3]at m;unfold dk fV;rw[aX.out];omega,rfl⟩⟩;clear F t U aw J E;go_wp2_with fail;refine q2 H ?_;rintro e V ⟨rfl,I⟩;go_wp2;exact⟨rfl,z.out _ I⟩
   ·have H:=mE g B _ wr aw m;rw[lT,m2,m0]at H;obtain⟨bf,cn⟩:=iz an (1+33*j);have ap:Hid (outN l=(l.getD (1+33*j) 0).toNat):=by show outN l= _;unfold outN;rw[aX.out]
    rw[bf]at H;clear bf;generalize (l.getD (1+33*j) 0).toNat=a6 at*;have cc:1+33*j+1<=l.length:=by rw[k3]at m;omega
    have d:=kG J (kR F (kR t U));clear F t U aw J E m;go_wp2_with fail;refine q2 H ?_;rintro e V ⟨rfl,I,aH⟩;have bp:=d.out.2.1.only I kH;have bq:=d.out.2.2.1.only I kH;have a8:=d.out.2.2.2.only I kH;have bj:=d.out.1.trans I;have cw:=k2 aO I.size;have E:=kG bp (kR bq (kR bj (kR aH a8)));have bN:Hid (∀k,(Value.slice a j c).ownBlock=some k->k<V.1.size):=fun k m=>(qX a8 k m).2;clear d H bp bq a8 bj aH I aO bh Z;go_wp2;go_loopw [21] (fun i wr=> ∃k o q,k<=a6/\i= .int .i64 (k:Nat)/\1+33*j+1+8*k<=l.length/\OnlyB g w wr/\V.1.size<=wr.1.size/\Blk wr 121 w.1.size txz/\Blk wr 121 (w.1.size+1) [.slice a j c,.slice o k q,.int .i64 0]/\ORow 52 33 (w.1.size+1+1) wr a j c (dH (dU l))/\ORow 3 1 V.1.size wr o k q (eg (gA l))/\Cur wr g B (l.drop (1+33*j+1+8*k))) (fun i _=>a6-(intOf i).toNat)
    case atStart=>exact⟨0,none,0,kX _,rfl,kH,E.out.2.2.1,kE,E.out.1,E.out.2.1,E.out.2.2.2.2,eU _ _ _ _ _,E.out.2.2.2.1⟩
    case round=>
     obtain⟨k,o,q,m,rfl,cg,J,aO,F,t,U,a9,aw⟩:=hrel;clear E;by_cases bh:k<a6
     ·have cs:wr.drew.cell? ⟨w.1.size+1,1,none⟩=some (.slice o k q):=t.cell 1;have Z:(k:Int)< (a6:Int):=kH;have Y:=bDr wr;have R:=aw.below Y;have d:=kG J (kR F (kR t (kR U a9)));have S:Hid (∀v,OnlyB g wr.drew v->v.cell? ⟨w.1.size+1,1,none⟩=some (.slice o k q)):=fun v bR=>(t.only ((Below.onlyB Y g).trans bR) kH).cell 1;have L:Hid (∀w',OnlyB g wr.drew w'->l.length<1+33*j+1+8*(k+1)->lU g B l w (.panicked aU) w'):=fun w' ak ai=>⟨d.out.1.trans ((Below.onlyB Y g).trans ak),kT ⟨by unfold dk fV;rw[aX.out,ap.out];omega,rfl⟩⟩;clear J F t U a9 aw;rcases nr (l.drop (1+33*j+1+8*k)).length 8 with m|m
      ·have ai:l.length<1+33*j+1+8*(k+1):=by rw[k3]at m;omega
       go_wp2_with fail;refine ay (fun v=>v.cell? ⟨w.1.size+1,1,none⟩=some (.slice o k q)) (fun k=>decide (6<=k)) kO ?_;refine aa 0 cs ?_;refine aa 1 cs ?_;refine aa 2 cs ?_;refine aj 3 fun f b=> ?_;go_wp2_with fail;refine q2 (jb g B _ 8 wr.drew R m kH) ?_;rintro e G ⟨rfl,cv⟩;go_wp2;exact⟨rfl,L.out _ (OnlyB.refl _ _) ai⟩
      ·have ad:=iu g B _ 8 wr.drew R kH m;rw[m0]at ad;obtain⟨x,hx⟩:∃x,x=gA l k:=⟨_,rfl⟩;have bb:Hid (x=fh ((l.drop (1+33*j+1+8*k)).take 8)):=by show x= _;rw[hx];unfold gA;rw[aX.out]
       have b5:Hid _:=hx;clear hx;have ah:1+33*j+1+8*(k+1)<=l.length:=by rw[k3]at m;omega
       go_wp2_with fail;refine ay (fun v=>v.cell? ⟨w.1.size+1,1,none⟩=some (.slice o k q)) (fun k=>decide (6<=k)) kO ?_;refine aa 0 cs ?_;refine aa 1 cs ?_;refine aa 2 cs ?_;refine aj 3 fun f b=> ?_;go_wp2_with fail;refine q2 ad ?_;rintro e G ⟨cy,cr,cl,rfl,C,W,b7,_⟩;have bE:=vo _ cl _ G b7;rw[<-bb.out]at bE;clear ad b7;go_wp2_with fail;refine b.out _ _ (fun _=>S.out _ C) ?_;clear b f;refine aj 4 fun f b=> ?_;go_wp2_with fail;refine q2 bE ?_;rintro e n ⟨rfl,ce⟩;obtain rfl:=ce.symm;clear bE;go_wp2_with fail;refine b.out _ _ (fun _=>S.out _ C) ?_;clear b f;have u:=(Below.onlyB Y g).trans C;have O:=d.out.2.1.only u kH;have A:=d.out.2.2.1.only u kH;have Q:=d.out.2.2.2.1.only u kH;have ag:=d.out.2.2.2.2.only u kH;have M:=d.out.1.trans u;have X:=k2 aO u.size;rw[show 1+33*j+1+8*k+8=1+33*j+1+8*(k+1)by omega]at W;have q3:=bAl G (.cells [Value.int .i64 x].toArray 3);clear C R S L;refine aj 5 fun f b=> ?_;refine fj _ _ _ rfl (v:= .slice (some ⟨G.1.size,0,none⟩) 1 1) (w':=G.alloc (.cells [Value.int .i64 x].toArray 3)) ?bs ?_
       case bs=>
        simp only[k9,k4,k7];exact gF oq kH (.int .i64 x) [.int .i64 x] rfl rfl G
       refine b.out _ _ (fun _=>(A.below q3).cell 1) ?_;clear b f;refine aj 6 fun f b=> ?_;refine jv _ _ oq rfl V.1.size o k q (eg (gA l)) rfl ag [.int .i64 x] rfl (by simp[Value.oneCell']) rfl kH kH X ?_;intro r s n ab K _;refine al b ?_;clear b f;replace ab:=ab.congr (f':=eg (gA l)) (fun i co=>by
        by_cases e:i=k
        ·subst e;rw[fJ,b5.out];rfl
        ·rw[iE _ _ kH])
       have P:Blk n 121 w.1.size txz:=(K.block _ kH).trans O;have D:Blk n 121 (w.1.size+1) [.slice a j c,.slice o k q,.int .i64 0]:=(K.block _ kH).trans A;have af:ORow 52 33 (w.1.size+1+1) n a j c (dH (dU l)):=uS Q K bN.out;have ac:=W.belowB K kH kH;have N:=M.thenN K kH;have ar:=k2 X K.size;have ck:=D.cell 1;have f1:=D.free 1;have y:=aB n (w.1.size+1) 1 (.slice r (k+1) s);have z:Hid (OnlyB g w (n.setCell ⟨w.1.size+1,1,none⟩ (.slice r (k+1) s))/\V.1.size<=(n.setCell ⟨w.1.size+1,1,none⟩ (.slice r (k+1) s)).1.size/\Blk (n.setCell ⟨w.1.size+1,1,none⟩ (.slice r (k+1) s)) 121 w.1.size txz/\Blk (n.setCell ⟨w.1.size+1,1,none⟩ (.slice r (k+1) s)) 121 (w.1.size+1) [.slice a j c,.slice r (k+1) s,.int .i64 0]/\ORow 52 33 (w.1.size+1+1) (n.setCell ⟨w.1.size+1,1,none⟩ (.slice r (k+1) s)) a j c (dH (dU l))/\ORow 3 1 V.1.size (n.setCell ⟨w.1.size+1,1,none⟩ (.slice r (k+1) s)) r (k+1) s (eg (gA l))/\Cur (n.setCell ⟨w.1.size+1,1,none⟩ (.slice r (k+1) s)) g B (l.drop (1+33*j+1+8*(k+1)))):=
        ⟨N.thenN (y.below kE kH) kH,k2 ar y.size,P.only y kH,D.set 1 _,af.only y kH,ab.only y kH,ac.only y kH kH⟩
       clear O A Q ag M P D af W ac N ab K q3 y u d;refine aj 7 fun f b=> ?_;go_wp2_with fail;refine al b ?_;clear b f;refine aj 8 fun f b=> ?_;go_wp2_with fail;refine al b ?_;clear b f;refine ax ?_;clear ck f1 cs;go_wp2;go_roundw
       case rel=>exact⟨k+1,r,s,kH,by go_num,ah,z.out⟩
       case measure=>simp[intOf];omega
     ·obtain rfl:k=a6:=kH;have Z:¬((k:Int)< (k:Int)):=kH;have bz:Hid (fV l=1+33*j+1+8*k):=by show fV l= _;unfold fV;rw[aX.out,ap.out]
      rcases nr (l.drop (1+33*j+1+8*k)).length 4 with m|m
      ·have H:=vp g B _ wr aw m;have z:Hid (∀w',OnlyB g wr w'->lU g B l w (.panicked aU) w'):=fun w' ak=>⟨J.trans ak,kT ⟨by rw[k3]at m;unfold dk;rw[bz.out];omega,rfl⟩⟩;clear F t U a9 aw J;go_wp2_with fail;refine q2 H ?_;rintro e G ⟨rfl,C⟩;go_wp2;exact⟨rfl,z.out _ C⟩
      ·have H:=om g B _ wr aw m;rw[m0]at H;have bd:Hid (dk l<=l.length/\dk l=1+33*j+1+8*k+4):=by
        rw[k3]at m;refine⟨?_,?_⟩<;>(unfold dk;rw[bz.out]);omega
       have b3:Hid ((txP l).h=low ((l.drop (1+33*j+1+8*k)).take 4)):=by show low _= _;rw[bz.out]
       have d:=kG J (kR F (kR t (kR U a9)));clear F t U a9 aw J m;rw[<-b3.out]at H;generalize bg:(txP l).h=a4 at*;have b4:Hid _:=bg;clear bg b3;go_wp2_with fail;refine q2 H ?_;rintro e G ⟨rfl,C,W⟩;have O:=d.out.2.1.only C kH;have A:=d.out.2.2.1.only C kH;have Q:=d.out.2.2.2.1.only C kH;have ag:=d.out.2.2.2.2.only C kH;have M:=d.out.1.trans C;have b8:=A.cell 2;have ca:=A.free 2;have y:=aB G (w.1.size+1) 2 (.int .i64 a4);have X:=k2 aO C.size;have bb:=kG (O.only y kH) (kR (A.set 2 (.int .i64 a4)) (kR (Q.only y kH) (kR (ag.only y kH) (kR (M.thenN (y.below kE kH) kH) (W.only y kH kH)))));clear O A Q ag M W y d H C;go_upto_region 11 with fail
       obtain⟨P,D,af,bv,N,ac⟩:=bb.out;have ar:w.1.size+1+1<=(G.setCell ⟨w.1.size+1,2,none⟩ (.int .i64 a4)).1.size:=by simp;omega
       clear bb b8 ca;generalize G.setCell ⟨w.1.size+1,2,none⟩ (.int .i64 a4)=n at*;have b9:[Value.slice a j c,.slice o k q,.int .i64 a4]=txc ⟨a,c,o,q⟩ (txP l):=by
        unfold txc;rw[b4.out,show(txP l).ni=j from ae.out,show(txP l).no=k from ap.out]
       have cf:Blk n 121 (w.1.size+1) (txc ⟨a,c,o,q⟩ (txP l)):=by rw[<-b9];exact D
       have bS:(prog.info? 121).map (·.size)=some (txc ⟨a,c,o,q⟩ (txP l)).toArray.size:=kO;have ct:txz.toArray.size=(txc ⟨a,c,o,q⟩ (txP l)).toArray.size:=rfl;have cq:=P.setRow (txc ⟨a,c,o,q⟩ (txP l));have a7:=aN n w.1.size (txc ⟨a,c,o,q⟩ (txP l)).toArray;have bk:=N.thenN (a7.below kE kH) kE;have bu:=af.only a7 kH;have bw:=bv.only a7 kH;have b1:=ac.only a7 b2 kH;have b6:OTx w.1.size (n.setRow w.1.size (txc ⟨a,c,o,q⟩ (txP l)).toArray) ⟨a,c,o,q⟩ (txP l):=by
        refine⟨Ij an _ (by show 1+33*inN l<=_;rw[ae.out];omega),?_,?_⟩
        ·show ORow _ _ _ _ a (inN l) c (dH (dU l));rw[ae.out];exact bu.mono kH
        ·show ORow _ _ _ _ o (outN l) q (eg (gA l));rw[ap.out];exact bw.mono kH
       have z:=kG bk (kR b6 b1);clear bk bu bw b1 b6 af bv N ac D a7 b9;go_wp2_with (first|(refine qi rfl 121 _ rfl (w.1.size+1) rfl 121 (txc ⟨a,c,o,q⟩ (txP l)).toArray (0,0) _ cf underlying121 rfl bS ?_)|(refine qB rfl 121 _ _ rfl w.1.size (txc ⟨a,c,o,q⟩ (txP l)).toArray rfl rfl 121 _ P bS ct (rz _ _) ?_));refine p6 (v:= .agg (txc ⟨a,c,o,q⟩ (txP l)).toArray) ?_ rfl ⟨z.out.1,kV ⟨bd.out.1,⟨a,c,o,q⟩,rfl,z.out.2.1,by rw[bd.out.2];exact z.out.2.2⟩⟩;exact r3 results168 _ _ w.1.size 121 (txc ⟨a,c,o,q⟩ (txP l)).toArray (0,0) _ rfl cq underlying121 rfl bS
theorem xK{B g w w' a b c d}(e:OTx B w a c)(f:OTx g w' b d)(i:w.1.size<=g):pq a b c d:=
 ⟨fun k h h'=>by have x:=(qX e.ins k h).2;have y:=(qX f.ins k h').1;omega,fun k h h'=>by have x:=(qX e.outs k h).2;have y:=(qX f.outs k h').1;omega⟩
def dN{α:Type}(f:Nat->α)(n:Nat)(x:α):Nat->α:=fun i=>if i=n then x else f i
theorem fH{a:Type}(f n)(x:a):dN f n x n=x:=by simp[dN]
theorem eo{a:Type}(f n)(x:a){i}(h:i≠n):dN f n x i=f i:=by simp[dN,h]
def bl4(p r:List Int)(h:Int)(t:Value):List Value:=ob p++(ob r++[.int .i64 h,t])
theorem xL(v K):blc v K=bl4 K.prev K.root K.h (.slice v.ta K.nt v.tc):=rfl
theorem gL{p r}(h b)(a:p.length=32)(hr:r.length=32):(bl4 p r h b).length=66:=by simp[bl4,au,a,hr]
theorem xM{p r x}(h a)(b:p.length=32)(hx:x.length=32):(bl4 p r h a).take 0++ob x++(bl4 p r h a).drop (0+(ob x).length)=bl4 x r h a:=by
 rw[o7,m7,au,hx,ld];unfold bl4;rw[o4 (by rw[au];omega),pk (by rw[au];omega),m7]
theorem xO{p r x}(h c)(b:p.length=32)(hr:r.length=32)(hx:x.length=32):(bl4 p r h c).take 32++ob x++(bl4 p r h c).drop (32+(ob x).length)=bl4 p x h c:=by
 have a:(ob p).length=32:=by rw[au,b]
 have d:(ob r).length=32:=by rw[au,hr]
 rw[au,hx];unfold bl4;rw[oM kH,mm kH,List.drop_append,pk kH,m7,a,o4 kH,pk kH,m7,k5]
theorem Il{p r}(h x b)(a:p.length=32)(hr:r.length=32):(bl4 p r h b).set 64 (.int .i64 x)=bl4 p r x b:=by
 unfold bl4;rw[n2 _ _ (by rw[au];omega),au,a,n2 _ _ (by rw[au];omega),au,hr]
 rfl
theorem xP{p r}(h c b)(a:p.length=32)(hr:r.length=32):(bl4 p r h c).set 65 b=bl4 p r h b:=by
 unfold bl4;rw[n2 _ _ (by rw[au];omega),au,a,n2 _ _ (by rw[au];omega),au,hr]
 rfl
theorem Im{p r}(h b)(a:p.length=32)(hr:r.length=32):(bl4 p r h b)[64]?=some (.int .i64 h):=by
 unfold bl4;rw[m4 (by rw[au];omega),au,a,m4 (by rw[au];omega),au,hr]
 rfl
theorem jL{p r}(h b)(a:p.length=32)(hr:r.length=32):(bl4 p r h b)[65]?=some b:=by
 unfold bl4;rw[m4 (by rw[au];omega),au,a,m4 (by rw[au];omega),au,hr]
 rfl
def z32:List Int:=List.replicate 32 0
theorem dX:z32.length=32:=by simp[z32]
def bZ(l:List Int):Nat->Nat
 |0=>69
 |i+1=>bZ l i+dk (l.drop (bZ l i))
def blN(l:List Int):Nat:=(l.getD 68 0).toNat
def fu(l:List Int)(i:Nat):TxK:=txP (l.drop (bZ l i))
def blP(l:List Int):BlK:=⟨l.take 32,(l.drop 32).take 32,low ((l.drop 64).take 4),blN l,fu l⟩
def et(l:List Int):Nat:=bZ l (blN l)
theorem pu(l):∀{i j:Nat},i<=j->bZ l i<=bZ l j:=by
 intro i j h;induction j with
 |zero=>obtain rfl:i=0:=kH;exact kE
 |succ j ih=>
  by_cases e:i=j+1
  ·subst e;exact kE
  ·exact k2 (ih kH) (by simp only[bZ];omega)
theorem sY(l i):69<=bZ l i:=pu l (i:=0) (kX i)
theorem px{l}(h:IsB l)(a:69<=l.length):BlOk (blP l):=
 ⟨by simp only[blP,lw];omega,by simp only[blP,lw,k3];omega,dR h _,dR (ff h _) _⟩
theorem jo(p r h c)(b:c.oneCell'=true):(bl4 p r h c).toArray.all (·.oneCell')=true:=by
 rw[pn];intro d a;simp only[bl4,List.mem_toArray,mx,l3,List.not_mem_nil,or_false]at a;rcases a with a|a|rfl|rfl
 ·exact ev _ d a
 ·exact ev _ d a
 ·rfl
 ·exact b
theorem xQ:mq prog 113=some ((bl4 z32 z32 0 (.slice none 0 0)).toArray,[(0,32),(32,32),(64,1),(65,1)]):=kO
theorem In(c e n)(d:c.length=32)(f:e.length=32):prog.built 113 [(0,.agg (ob c).toArray),(1,.agg (ob e).toArray),(2,.int .i64 n)]=some (bl4 c e n (.slice none 0 0)).toArray:=by
 have a:(ob c).length=32:=by rw[au,d]
 have b:(ob e).length=32:=by rw[au,f]
 have g:=gL 0 (.slice none 0 0) dX dX;have h:=gL 0 (.slice none 0 0) d dX;have i:=gL 0 (.slice none 0 0) d f;rw[nH xQ,jw _ _ 0 0 _ (ob c) _ (by simp[a]) rfl (by simp[a,g])];rw[show(bl4 z32 z32 0 (.slice none 0 0)).toArray.toList=bl4 z32 z32 0 (.slice none 0 0)from rfl,xM 0 _ dX d];rw[jw _ _ 1 32 _ (ob e) _ (by simp[b]) rfl (by simp[b,h])];rw[show(bl4 c z32 0 (.slice none 0 0)).toArray.toList=bl4 c z32 0 (.slice none 0 0)from rfl,xO 0 _ d dX f];rw[jw _ _ 2 64 _ [.int .i64 n] _ kP rfl (by simp[i])];rw[show(bl4 c e 0 (.slice none 0 0)).toArray.toList=bl4 c e 0 (.slice none 0 0)from rfl];simp only[Instr.fill];have:(bl4 c e 0 (.slice none 0 0)).take 64++[Value.int .i64 n]++(bl4 c e 0 (.slice none 0 0)).drop (64+[Value.int .i64 n].length)=bl4 c e n (.slice none 0 0):=by
  unfold bl4;rw[<-k5,<-k5,oM (by simp[a,b]),mm (by simp[a,b]),List.drop_append,pk (by simp[a,b])];simp[a,b]
 rw[this]
structure RdrA(w:World)(g B:Nat)(a:Option Addr)(n c:Nat)(l:List Int)(p:Nat)(s:Bool):Prop where
 blk:Blk w 172 g [.slice a n c,.int .i64 (p:Nat),.bool s]
 bs:Bs w a n c l
 low:∀b off,0<n->a=some ⟨b,off,none⟩->b<B
 le:p<=l.length
 sm:l.length<=1048576
def Rdr(w:World)(g B:Nat)(l:List Int)(p:Nat)(s:Bool):Prop:= ∃a n c,RdrA w g B a n c l p s
theorem RdrA.ne{w g B a n c l p s}(h:RdrA w g B a n c l p s):∀b off,0<n->a=some ⟨b,off,none⟩->b≠g:=fun b off f e i=>by
 obtain⟨o,m,d,q,j⟩:=h.bs.at_ f;rw[e]at d;cases d;subst i;have:=j 0 f;rw[h.blk.cell]at this
 match off,this with
 |0,this=>simp at this
 |1,this=>simp at this
 |2,this=>simp at this
 |k+3,this=>simp at this
theorem Rdr.below{w w' g B l p s}(h:Rdr w g B l p s)(b:Below w.1.size w w'):Rdr w' g B l p s:=by
 obtain⟨a,n,c,h⟩:=h;exact⟨a,n,c,h.blk.below b,h.bs.below b,h.low,h.le,h.sm⟩
theorem Rdr.only{w w' g B k l p s}(h:Rdr w g B l p s)(d:OnlyB k w w')(j:B<=k)(f:g≠k):Rdr w' g B l p s:=by
 obtain⟨a,n,c,h⟩:=h;exact⟨a,n,c,h.blk.only d f,h.bs.only d (fun b off i e m=>by have:=h.low b off i e;omega),h.low,h.le,h.sm⟩
theorem Rdr.belowB{w w' g B N l p s}(h:Rdr w g B l p s)(d:Below N w w')(r:B<=N)(k:g<N):Rdr w' g B l p s:=by
 obtain⟨a,n,c,h⟩:=h;refine⟨a,n,c,(d.block g k).trans h.blk,⟨h.bs.len_eq,h.bs.le,h.bs.le',h.bs.nil,fun f=> ?_,h.bs.byte⟩,h.low,h.le,h.sm⟩;obtain⟨b,off,e,o,j⟩:=h.bs.at_ f;have q:=h.low b off f e;refine⟨b,off,e,lk o d.size,fun i m=> ?_⟩;rw[r8 (a:=⟨b,off+i,none⟩) (d.block b kH)];exact j i m
theorem Rdr.lt{w g B l p s}(h:Rdr w g B l p s):g<w.1.size:=by
 obtain⟨a,n,c,h⟩:=h;exact h.blk.lt
theorem Rdr.byte{w g B l p s}(h:Rdr w g B l p s):IsB l:=by
 obtain⟨a,n,c,h⟩:=h;exact h.bs.byte
theorem Rdr.le{w g B l p s}(h:Rdr w g B l p s):p<=l.length/\l.length<=1048576:=by
 obtain⟨a,n,c,h⟩:=h;exact⟨h.le,h.sm⟩
theorem Rdr.cellS{w g B l p s}(h:Rdr w g B l p s):w.cell? ⟨g,2,none⟩=some (.bool s):=by
 obtain⟨a,n,c,h⟩:=h;exact h.blk.cell 2
theorem Rdr.freeS{w g B l p s}(h:Rdr w g B l p s):w.frozen? ⟨g,2,none⟩=false:=by
 obtain⟨a,n,c,h⟩:=h;exact h.blk.free 2
theorem Rdr.cut{w g B l p s}(h:Rdr w g B l p s):Rdr (w.setCell ⟨g,2,none⟩ (.bool true)) g B l p true:=by
 obtain⟨a,n,c,h⟩:=h;have o:=aB w g 2 (.bool true);exact⟨a,n,c,h.blk.set 2 _,h.bs.only o h.ne,h.low,h.le,h.sm⟩
theorem Io(g B l p k w)(h:Rdr w g B l p false)(R:1<=k)(S:p+k<=l.length):
 Calls prog 108 #[.pointer (some ⟨g,0,none⟩),.int .i64 (k:Int)] w fun e w'=> ∃b off x,e= .returned (.slice (some ⟨b,off,none⟩) k x)/\OnlyB g w w'/\Rdr w' g B l (p+k) false/\Bs w' (some ⟨b,off,none⟩) k x ((l.drop p).take k)/\b<w.1.size/\b≠g/\b<B:=by
 obtain⟨a,n,c,h⟩:=h;have T:=h.bs.len_eq;obtain⟨b,off,rfl,N,_⟩:=h.bs.at_ kH;have D:=h.ne b off kH rfl;have A:=h.low b off kH rfl;have Q:=h.bs.le;have C:=h.bs.le';have E:=h.sm;unfold maxLen at C;have H:=h.blk.cell 0;have I:=h.blk.cell 1;have J:=h.blk.cell 2;have P:¬((n:Int)< (p:Int)+(k:Int)):=kH;have i:Hid _:=h;clear h;go_enter func108,ntmps108;go_wp2_with fail
 go_quiet (fail)
 have q:Below w.1.size w (w.drewN nq):=⟨rfl,rfl,rfl,kE,fun _ _=>rfl⟩;have r:=i.out.blk.below q;have v:=i.out.bs.below q;have L:decide ((n:Int)< (p:Int)+(k:Int))=false:=by simp;omega
 rw[L];generalize w.drewN nq=O at*;have y:=r.cell 1;have z:=r.free 1;have s:=r.set 1 (.int .i64 ((p:Int)+(k:Int)));have t:=aB O g 1 (.int .i64 ((p:Int)+(k:Int)));have m:=v.only t i.out.ne;have G:=(Below.onlyB q g).trans t;have u:=m.cut p k kH (c-p) kH (by have:=m.le';omega);have f:=kG G (kR s (kR m u));clear H I J r v q m G t u;go_upto_region 5 with fail
 generalize O.setCell ⟨g,1,none⟩ (.int .i64 ((p:Int)+(k:Int)))=j at*;have d0:=s.cell 0;have K:=s.cell 1;clear s y z;go_wp2_with fail
 go_quiet (fail)
 have M:p+k-p=k:=kH;simp only[M];have o:Below j.1.size j (j.drewN nq):=⟨rfl,rfl,rfl,kE,fun _ _=>rfl⟩;have F:Blk (j.drewN nq) 172 g [.slice (some ⟨b,off,none⟩) n c,.int .i64 ((p+k:Nat):Int),.bool false]:=by
  rw[show((p+k:Nat):Int)=(p:Int)+(k:Int)by omega];exact f.out.2.1.below o
 have d:=kG (f.out.1.trans (Below.onlyB o g)) (kR F (kR (f.out.2.2.1.below o) (f.out.2.2.2.below o)));clear F d0 K f;go_wp2;go_ret;exact⟨b,off+p,c-p,rfl,d.out.1,⟨_,n,c,d.out.2.1,d.out.2.2.1,i.out.low,kH,E⟩,d.out.2.2.2,N,D,A⟩
theorem xR(k):madeCells #[.int .u8 0] k=(ob (List.replicate k 0)).toArray:=by
 apply Array.toList_inj.1;rw[toList_madeCells_one];simp[ob]
theorem Ip(g B l p k s w)(h:Rdr w g B l p s)(L:1<=k)(y:k<=1048576)(H:s=true\/l.length<p+k):
 Calls prog 108 #[.pointer (some ⟨g,0,none⟩),.int .i64 (k:Int)] w fun e w'=> ∃b z,e= .returned (.slice (some ⟨b,0,none⟩) k z)/\OnlyB g w w'/\Rdr w' g B l p true/\Bs w' (some ⟨b,0,none⟩) k z (List.replicate k 0)/\w.1.size<=b:=by
 have x:Hid _:=h;obtain⟨a,n,c,h⟩:=h;have M:=h.bs.len_eq;have G:=h.bs.le';have K:=h.sm;have J:=h.le;unfold maxLen at G;have A:=h.blk.cell 0;have C:=h.blk.cell 1;have D:=h.blk.cell 2;clear h;go_enter func108,ntmps108;go_wp2_with fail;cases s with
 |true=>
  go_quiet (fail)
  have i:Below w.1.size w (w.drewN nq):=⟨rfl,rfl,rfl,kE,fun _ _=>rfl⟩;have d:=Rdr.below x.out i;have o:=d.cut;have E:=d.cellS;have F:=d.freeS;have u:=(Below.onlyB i g).trans (aB (w.drewN nq) g 2 (.bool true));have r:(w.drewN nq).1.size=w.1.size:=rfl;generalize w.drewN nq=f at*;have q:Below (f.setCell ⟨g,2,none⟩ (.bool true)).1.size (f.setCell ⟨g,2,none⟩ (.bool true)) ((f.setCell ⟨g,2,none⟩ (.bool true)).alloc (.cells (madeCells #[.int .u8 0] k) 5)):=bAl _ _;have m:Own (f.setCell ⟨g,2,none⟩ (.bool true)).1.size ((f.setCell ⟨g,2,none⟩ (.bool true)).alloc (.cells (madeCells #[.int .u8 0] k) 5)) (some ⟨(f.setCell ⟨g,2,none⟩ (.bool true)).1.size,0,none⟩) k k (List.replicate k 0):=by
   rw[xR];exact dZ _ (List.replicate k 0) k kP kH _ kE
  have j:=kG (u.trans (Below.onlyB q g)) (kR (o.below q) (m.bs (iL k)));have t:(f.setCell ⟨g,2,none⟩ (.bool true)).1.size=w.1.size:=by simp[r]
  have mk:=fun w'=>ve k k rfl y w';clear A C D d o i u q m x;go_wp2;go_ret;have v:=j.out;rw[t]at v;exact⟨w.1.size,k,rfl,v.1,v.2.1,v.2.2,kE⟩
 |false=>
  have I:(n:Int)< (p:Int)+(k:Int):=by
   rcases H with h|h
   ·cases h
   ·omega
  go_quiet (fail)
  have i:Below w.1.size w (w.drewN nq):=⟨rfl,rfl,rfl,kE,fun _ _=>rfl⟩;have d:=Rdr.below x.out i;have o:=d.cut;have E:=d.cellS;have F:=d.freeS;have u:=(Below.onlyB i g).trans (aB (w.drewN nq) g 2 (.bool true));have r:(w.drewN nq).1.size=w.1.size:=rfl;generalize w.drewN nq=f at*;have q:Below (f.setCell ⟨g,2,none⟩ (.bool true)).1.size (f.setCell ⟨g,2,none⟩ (.bool true)) ((f.setCell ⟨g,2,none⟩ (.bool true)).alloc (.cells (madeCells #[.int .u8 0] k) 5)):=bAl _ _;have m:Own (f.setCell ⟨g,2,none⟩ (.bool true)).1.size ((f.setCell ⟨g,2,none⟩ (.bool true)).alloc (.cells (madeCells #[.int .u8 0] k) 5)) (some ⟨(f.setCell ⟨g,2,none⟩ (.bool true)).1.size,0,none⟩) k k (List.replicate k 0):=by
   rw[xR];exact dZ _ (List.replicate k 0) k kP kH _ kE
  have j:=kG (u.trans (Below.onlyB q g)) (kR (o.below q) (m.bs (iL k)));have t:(f.setCell ⟨g,2,none⟩ (.bool true)).1.size=w.1.size:=by simp[r]
  have mk:=fun w'=>ve k k rfl y w';clear A C D d o i u q m x;go_wp2;go_ret;have v:=j.out;rw[t]at v;exact⟨w.1.size,k,rfl,v.1,v.2.1,v.2.2,kE⟩
structure Tk(g B:Nat)(l:List Int)(p k:Nat)(s:Bool)(w w':World)(b off c:Nat)(x:List Int)(q:Nat)(s':Bool):Prop where
 only:OnlyB g w w'
 rd:Rdr w' g B l q s'
 bs:Bs w' (some ⟨b,off,none⟩) k c x
 ne:b≠g
 yes:s'=false->s=false/\p+k<=l.length/\q=p+k/\x=(l.drop p).take k
 no:s'=true->s=true\/l.length<p+k
theorem iA(g B l)(p k:Nat)(s w)(h:Rdr w g B l p s)(f:1<=k)(n:k<=1048576):
 Calls prog 108 #[.pointer (some ⟨g,0,none⟩),.int .i64 (k:Int)] w fun e w'=> ∃b off c x q u,e= .returned (.slice (some ⟨b,off,none⟩) k c)/\Tk g B l p k s w w' b off c x q u:=by
 have v:=h.lt;by_cases a:s=true\/l.length<p+k
 ·refine(Ip g B l p k s w h f n a).mono ?_;rintro e w' ⟨b,c,rfl,o,r,d,i⟩;exact⟨b,0,c,_,p,true,rfl,o,r,d,kH,(fun e=>by cases e),fun _=>a⟩
 ·have t:s=false:=by cases s with|false=>rfl|true=>exact absurd (kV rfl) a
  have j:=Nat.le_of_not_lt fun m=>a (kT m);subst t;refine(Io g B l p k w h f j).mono ?_;rintro e w' ⟨b,off,c,rfl,o,r,d,_,i,_⟩;exact⟨b,off,c,_,p+k,false,rfl,o,r,d,i,fun _=>⟨rfl,j,rfl,rfl⟩,(fun e=>by cases e)⟩
