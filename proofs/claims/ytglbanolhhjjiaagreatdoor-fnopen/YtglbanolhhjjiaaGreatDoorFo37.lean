import Derived.Test.YtglbanolhhjjiaaGreatDoorFo31
import Derived.Test.YtglbanolhhjjiaaGreatDoorFo32
namespace Go.Proofs.YtglbanolhhjjiaaGreatDoor
open Go.Proofs.Tryz
open Go.RowKit
set_option linter.unusedVariables false
set_option maxRecDepth 100000
set_option maxHeartbeats 32000000
section
variable {B0 g:Nat} {rest:List Value} {rt:Int} {w:World} {ns ms:List NdK} {nv:Nat->NdV} {na:Option Addr} {nc:Nat}
theorem Gt{n a c I J E F O B v w sg k l}(D:wf n a)(s:wf n c)(hA:SRep ns a I [(strOfNums [],E)])(j:SRep ns c J [(strOfNums [],F)])(g:RtN ns a E v O k)(i:RtN ns c F w B l):kSz (k++l) (jnK O B sg)=szT (dL a sg c):=by
 have b:=g.nd;have d:=i.nd;rcases aO D with⟨id,es,rfl,rfl⟩|⟨id,L,m,rfl,rfl⟩
 ·rcases aO s with⟨f,z,_,rfl⟩|⟨f,L,m,e,_⟩
  ·rw[SRep]at hA j;obtain⟨t,rfl,x,q⟩:=hA;obtain⟨u,rfl,y,r⟩:=j;cases x;cases y;have o:v=t:=by have:=g.pl;omega
   have p:w=u:=by have:=i.pl;omega
   subst o;subst p;rw[q]at b;rw[r]at d;cases b;cases d;have G:=g.sz;have H:=i.sz;simp only[kSz,ndL,szT,aH,wz,List.sum_nil,w9,if_true]at G H;simp only[dL,szT,kSz,jnK,ndL,kK,aH,wz,List.sum_nil,w9,if_true,G,H]
  ·omega
 ·rcases aO s with⟨f,z,e,_⟩|⟨f,M,R,e,rfl⟩
  ·omega
  ·rw[SRep]at hA j;obtain⟨t,u1,P,rfl,x,q,A⟩:=hA;obtain⟨u,u2,Q,rfl,y,r,C⟩:=j;cases x;cases y;have o:v=t:=by have:=g.pl;omega
   have p:w=u:=by have:=i.pl;omega
   subst o;subst p;rw[q]at b;rw[r]at d;cases b;cases d;have K:k=[]:=by have:=g.keys;simpa [ndI]using this.symm
   have N:l=[]:=by have:=i.keys;simpa [ndI]using this.symm
   subst K;subst N;simp only[dL,szT,ct,wu (bq.1 D).1 (bq.1 s).1,kSz,jnK,ndI,A.sgs,C.sgs,dm];simp[lSz];omega
theorem ym{a:Type}{l:List a}{q}(h:q+1<l.length)(x):(l.set q x).eraseIdx (q+1)=l.take q++x::l.drop (q+2):=by
 rw[List.eraseIdx_eq_take_drop_succ,List.take_set,List.drop_set_of_lt uA,x4 uA,List.set_append_right _ _ (by rw[wR];omega)];have:q-(l.take q).length=0:=by rw[wR];omega
 rw[this];simp
def MdP(B0 g:Nat)(rest:List Value)(rt:Int)(na:Option Addr)(w:World)(ns:List NdK)(i:Nat)(G:List Nat)(L:List Kd)(e:Ending)(w':World):Prop:=e= .returned (.tuple #[])/\∃(ms:List NdK)(P':List Nat),UQ B0 g rest rt na w w' ms/\(∀j,j<ns.length->j∉i::G->ms[j]?=ns[j]?)/\ns.length<=ms.length/\ms.length<=ns.length+1/\SRep ms (.node 0 (kds L)) P' [(strOfNums [],(i:Int))]/\fb (i::G) P' ns.length
theorem rU{P}(h:P.Nodup)(m):fb P P m:=⟨h,fun j a=>v7 a⟩
theorem Gu(ad:USt B0 g rest rt w ns nv na nc){i p n us G M}(E:ns[i]?=some (ndI 0 us))(u:SRep ns (kds M) G us)(t:(i::G).Nodup)(bu:p<M.length)(T:∀j,j<M.length->j≠p->wf n (M.getD j t0).2)(a9:wfb n (M.getD p t0).2)(aX:bare (M.getD p t0).2=false->wf n (M.getD p t0).2)(b3:M.length<=100)(ab:∀s∈sgs M,eQ s)(bS:ns.length<=1048574):
 Calls prog 160 #[.pointer (some ⟨g,0,none⟩),.int .i64 (i:Nat),.int .i64 (p:Nat)] w fun e w'=>MdP B0 g rest rt na w ns i G (fE M p) e w':=by
 have K:=(wC.1 E).1;have Y:=u.len;obtain⟨bf,bZ,bg,v,ag,bX,a2,aA,aB,aS⟩:=u.at bu;obtain⟨pc,bP,es,c⟩:=aB.rt a9;have ac:(us.map (·.2)).getD p 0=(pc:Int):=by
  have:=eF (·.2) us p ((strOfNums [],0):Pl);rw[a2]at this;rw[<-c.pl];exact this
 have d:=(zz.1 t).2;cases F:bare (M.getD p t0).2 with
 |true=>
  refine(FP ad E uA ac c.nd uA uA (c.bare.1 F)).mono ?_;rintro e w' ⟨rfl,f⟩;have H:fE M p=M.eraseIdx p:=by unfold fE;simp only[F,if_true]
  rw[H];have W:=aS.cat aA;rw[<-List.eraseIdx_eq_take_drop_succ,<-List.eraseIdx_eq_take_drop_succ]at W;have X:fb G (bf++bg) ns.length:=by
   rw[ag];rw[ag]at d;refine⟨?_,fun j b=>v7 ?_⟩
   ·rw[z8,z8]at d;rw[z8];exact⟨d.1,d.2.1.2.1,fun x hx y bx=>d.2.2 x hx y (by simp[bx])⟩
   ·rcases w6.1 b with b|b
    ·simp[b]
    ·simp[b]
  obtain⟨U,V⟩:=rM t K t6 W X;refine⟨rfl,_,_,f,fun j b Z=>BV (fun e=>Z (by simp[e])),vo,vo,U,V⟩
 |false=>
  have S:=aX F;have R:bP.keys.length+bP.kids.length≠0:=fun e=>by
   have:=c.bare.2 ⟨y3 uA,y3 uA⟩;rw[F]at this;cases this
  have bW:=c.small;by_cases D:60<=szT (M.getD p t0).2\/M.length<2
  ·refine(FQ ad E uA ac c.nd uA uA es c.keys c.vals (by have:=c.lsz;omega) (by have:=c.gsz;omega) uA R (by rw[c.sz,Y];exact D)).mono ?_;rintro e w' ⟨rfl,f⟩;have H:fE M p=M:=by unfold fE;simp only[F,Bool.false_eq_true,if_false,B4 D]
   rw[H];refine⟨rfl,ns,i::G,f,fun _ _ _=>rfl,t6,uA,?_,rU t _⟩;rw[SRep];exact⟨i,us,G,rfl,rfl,E,u⟩
  ·have bR:¬60<=szT (M.getD p t0).2:=fun h=>D (v7 h);obtain⟨q,a5⟩:∃q,q+1=max p 1:=⟨max p 1-1,uA⟩;have bT:q+1<M.length:=uA;obtain⟨ae,bc,bY,b4,ak,bv,Q,aT,C,I⟩:=u.at (show q<M.length by omega);rw[<-my (l:=M.drop (q+1)) (p:=0) t0 (by simp;omega)]at I;simp only[List.take_zero,xd,w7]at I;obtain⟨bF,ba,bd,O,af,z,r,P⟩:=er.1 I;have br:((M.drop (q+1)).getD 0 t0)=M.getD (q+1) t0:=by rw[ng,w9]
   rw[br]at r z;have L:wf n (M.getD q t0).2:=by
    by_cases e:q=p
    ·rw[e];exact S
    ·exact T q uA e
   have N:wf n (M.getD (q+1) t0).2:=by
    by_cases e:q+1=p
    ·rw[e];exact S
    ·exact T (q+1) uA e
   obtain⟨bC,bb,b0,k⟩:=C.rt (v7 L);obtain⟨bE,B,b1,m⟩:=r.rt (v7 N);have a3:(us.map (·.2)).getD q 0=(bC:Int):=by
    have:=eF (·.2) us q ((strOfNums [],0):Pl);rw[Q]at this;rw[<-k.pl];exact this
   have a0:us.getD (q+1) (strOfNums [],0)=((M.getD (q+1) t0).1,bF):=by
    have h:=C1 (fun l=>l.getD 0 ((strOfNums [],0):Pl)) z;simp only[ng,w9]at h;rw[h]
    rfl
   have a4:(us.map (·.2)).getD (q+1) 0=(bE:Int):=by
    have:=eF (·.2) us (q+1) ((strOfNums [],0):Pl);rw[a0]at this;rw[<-m.pl];exact this
   have a8:(us.tail.map (·.1)).getD q (strOfNums [])=(M.getD (q+1) t0).1:=by rw[u.sgs,mx]
   have a6:=k.small;have a7:=m.small;have am:=Gt (sg:=(M.getD (q+1) t0).1) L N C r k m;have a1:aH (jnK bb B (M.getD (q+1) t0).1).signs<=1000000:=by
    have W:=k.gsz;have b2:=m.gsz;simp only[jnK];split
    ·omega
    ·rw[iE,fW];have:gSz (M.getD (q+1) t0).1<=45:=kL (by rw[<-mx];exact ab _ (bO (by rw[gC];omega)));omega
   refine(FW ad E uA ac c.nd uA uA es c.keys c.vals (by have:=c.lsz;omega) (by have:=c.gsz;omega) uA R (by rw[c.sz];omega) a5 uA a3 a4 k.nd m.nd a6 a7 a8 k.keys k.vals m.keys m.vals (by rw[kK];have:=k.lsz;have:=m.lsz;omega) a1).mono ?_;rintro e w' ⟨rfl,f⟩;rw[am]at f;have A:G=ae++((bc++bd)++O):=by rw[ak,af,wv]
   have a:∀j,j<ns.length->(ns++[jnK bb B (M.getD (q+1) t0).1])[j]?=ns[j]?:=fun j b=>w4 b;have H:fE M p=if 240<szT (dL (M.getD q t0).2 (M.getD (q+1) t0).1 (M.getD (q+1) t0).2)then M else(M.set q ((M.getD q t0).1,dL (M.getD q t0).2 (M.getD (q+1) t0).1 (M.getD (q+1) t0).2)).eraseIdx (q+1):=by
    unfold fE;simp only[F,Bool.false_eq_true,if_false,CH D,<-a5,Nat.add_sub_cancel]
   rw[H];by_cases o:240<szT (dL (M.getD q t0).2 (M.getD (q+1) t0).1 (M.getD (q+1) t0).2)
   ·rw[B4 o];rw[mjL,B4 o]at f;refine⟨rfl,_,i::G,f,fun j b _=>a j b,vo,vo,?_,rU t _⟩;rw[SRep];exact⟨i,us,G,rfl,rfl,(a i K).trans E,u.grow a⟩
   ·rw[CH o];rw[mjL,CH o]at f;have J:=d;rw[A,z8,z8]at J;obtain⟨bk,bs,ap,an⟩:=FZ (ms:=ns++[jnK bb B (M.getD (q+1) t0).1]) (q:=ns.length) (sg:=(M.getD (q+1) t0).1) L N C r k.pl m.pl k.nd m.nd J.2.1.1 (fun j b=>a j (by rcases w6.1 b with h|h;exact C.lt j h;exact r.lt j h)) (by rw[xb t6,Nat.sub_self];rfl) t6;have X:fb G (ae++(bk++O)) ns.length:=by
     rw[A];rw[A]at d;refine xW d (fun j b=>u.lt j (by rw[A];exact b)) ⟨ap,fun j b=> ?_⟩;rcases an j b with h|h
     ·exact v7 h
     ·exact v6 uA
    have bl:(M.set q ((M.getD q t0).1,dL (M.getD q t0).2 (M.getD (q+1) t0).1 (M.getD (q+1) t0).2)).eraseIdx (q+1)=M.take q++((M.getD q t0).1,dL (M.getD q t0).2 (M.getD (q+1) t0).1 (M.getD (q+1) t0).2)::M.drop (q+2):=ym uA _;have bm:(us.set q ((us.getD q (strOfNums [],0)).1,(ns.length:Int))).eraseIdx (q+1)=us.take q++((M.getD q t0).1,(ns.length:Int))::us.drop (q+2):=by rw[ym uA,Q]
    rw[bm]at f;rw[bl];have bn:ba=us.drop (q+2):=by
     have h:=C1 List.tail z;rw[List.tail_drop]at h;exact h.symm
    rw[bn]at P;have bz:=aT.grow a;have bA:=P.grow a;have bB:SRep (ns++[jnK bb B (M.getD (q+1) t0).1]) (kds (((M.getD q t0).1,dL (M.getD q t0).2 (M.getD (q+1) t0).1 (M.getD (q+1) t0).2)::M.drop (q+2))) (bk++O) (((M.getD q t0).1,(ns.length:Int))::us.drop (q+2)):=er.2 ⟨_,_,bk,O,rfl,rfl,bs,bA⟩;obtain⟨U,V⟩:=rM t K vo (bB.cat bz) X;refine⟨rfl,_,_,f,fun j b Z=> ?_,vo,vo,U,V⟩;rw[BV (fun e=>Z (by simp[e])),a j b]
end
section
variable {B0 g:Nat} {rest:List Value} {rt:Int}
def Gv(B0 g:Nat)(rest:List Value)(rt:Int)(na:Option Addr)(w:World)(ns:List NdK)(P:List Nat)(p:Int)(d:Nat)(t:Tr)(e:Ending)(w':World):Prop:=
 e= .returned (.tuple #[])/\∃(ms:List NdK)(P':List Nat),UQ B0 g rest rt na w w' ms/\(∀j,j<ns.length->j∉P->ms[j]?=ns[j]?)/\ns.length<=ms.length/\ms.length<=ns.length+d/\SRep ms t P' [(strOfNums [],p)]/\fb P P' ns.length
def pf(B0 g:Nat)(rest:List Value)(rt:Int)(k:ByteArray)(n:Nat)(t:Tr):Prop:= ∀(w:World)(ns:List NdK)(nv:Nat->NdV)(na:Option Addr)(nc:Nat)(P:List Nat)(p:Int),USt B0 g rest rt w ns nv na nc->SRep ns t P [(strOfNums [],p)]->P.Nodup->ns.length+n<=1048574->eP k n t=true->
 Calls prog 131 #[.pointer (some ⟨g,0,none⟩),.int .i64 p,.string k] w fun e w'=>Gv B0 g rest rt na w ns P p n (bN k n t) e w'
theorem Gw(k id)(es:List En)(cc:es.length<=1000):pf B0 g rest rt k 0 (.leaf id es):=by
 intro w ns nv na nc P ch Z bv ce cf o;rw[SRep]at bv;obtain⟨p,rfl,bu,U⟩:=bv;cases bu;have O:plc k (es.map (·.1))<es.length:=by
  rw[eP,il,wX,decide_eq_true_iff,y2]at o;exact o.1
 have bZ:Hid (bN k 0 (.leaf id es)= .leaf 0 (es.eraseIdx (plc k (es.map (·.1))))):=by show _= _;rw[bN,ra]
 have af:(es.eraseIdx (plc k (es.map (·.1)))).map (·.1)=dx (es.map (·.1)) (plc k (es.map (·.1))):=by rw[jE,dx,List.eraseIdx_eq_take_drop_succ]
 have ag:(es.eraseIdx (plc k (es.map (·.1)))).map (·.2)=dx (es.map (·.2)) (plc k (es.map (·.1))):=by rw[jE,dx,List.eraseIdx_eq_take_drop_succ]
 have G:=uv af ag;have a6:Hid _:=Z;obtain⟨b,rfl,s,br,ak⟩:=Z.cells U;have bd:w.cell? ⟨g,0,none⟩=some (.slice (some ⟨b,0,none⟩) ns.length nc):=Z.blk.cell 0;have x:Hid ((ndL id es).keys.length=es.length/\(ndL id es).vals.length=es.length):=by show _/\_;simp[ndL]
 have Y:=bAl w (.cells (ndc (nv p) (ndL id es)).toArray 176);have bx:=aq w 176 (ndc (nv p) (ndL id es)).toArray;have a8:=br.below Y;have bT:(prog.info? 176).map (·.size)=some (ndc (nv p) (ndL id es)).length:=aD;clear af ag o;go_enter func131,ntmps131;go_upto_region 1 with(first|(refine dG rfl 176 _ rfl b (p*6) rfl (ndc (nv p) (ndL id es)) _ s underlying176 rfl bT ?_)|(refine bt rfl 176 _ _ rfl w (ndc aF nd0).toArray (ndc (nv p) (ndL id es)).toArray 176 rfl rfl aD rfl (cy _ _) ?_))
 change Code.wp _ _ _ _ (w.alloc (.cells (ndc (nv p) (ndL id es)).toArray 176));generalize w.alloc (.cells (ndc (nv p) (ndL id es)).toArray 176)=bX at*;have z:Blk bX 176 w.1.size (ndc (nv p) (ndL id es)):=bx;have a9:bX.cell? ⟨w.1.size,0,none⟩=some (.int .i64 id):=z.cell 0;have bg:=z.free 0;have r:Hid _:=z;clear bx z bd s br;go_upto_region 2 with fail
 have V:=ax bX w.1.size 0 (.int .i64 0);have D:=Blk.set r.out 0 (.int .i64 0);have d:=a8.keep (aw V r.out uB) (aw V r.out uB);have b4:=Y.trans (V.below t6 Y.size);clear r a8 Y V a9 bg Z bT;generalize bX.setCell ⟨w.1.size,0,none⟩ (.int .i64 0)=i at*;replace D:Blk i 176 w.1.size (ndc (nv p) (ndL 0 es)):=D;replace d:RNd i (nv p) (ndL 0 es):=⟨d.keys,d.vals,d.kids,d.signs⟩;have b5:i.cell? ⟨w.1.size,1,none⟩=some (.bool true):=D.cell 1;have b6:i.cell? ⟨w.1.size,2,none⟩=some (.slice (nv p).ka es.length (nv p).kc):=by rw[<-x.out.1];exact D.cell 2
 have bR:R1 9 i (nv p).ka es.length (nv p).kc (os (es.map (·.1))):=by have:=d.keys;rwa [show(ndL 0 es).keys.length=es.length from x.out.1]at this
 have ca:R1 9 i (nv p).va es.length (nv p).vc (os (es.map (·.2))):=by have:=d.vals;rwa [show(ndL 0 es).vals.length=es.length from x.out.2]at this
 have H:=rg _ _ _ _ k i bR vo uA;have f:=uv D (vJ d b4);clear D d;go_wp2_with fail;refine H.mono ?_;rintro e ab ⟨rfl,am⟩;obtain rfl:=am.symm;clear am H;generalize plc k (es.map (·.1))=b2 at*;generalize a1:es.eraseIdx b2=a at*;clear a1;have LO:=kz _ _ _ _ b2 i bR O uA;go_wp2_with fail;refine LO.mono ?_;rintro e ab ⟨n,c,rfl,I,bz⟩;have E:=f.out.1.below I;have bB:=f.out.2.1.below I;have M:=f.out.2.2.trans (I.mono f.out.2.2.size);have ba:ab.cell? ⟨w.1.size,2,none⟩=some (.slice (nv p).ka (ndL 0 es).keys.length (nv p).kc):=E.cell 2;have bk:=E.free 2;have W:=ax ab w.1.size 2 (.slice n (es.length-1) c);have a2:=E.set 2 (.slice n (es.length-1) c);have A:=aw (t:=9) W E uB;have aA:=aw (t:=3) W E uB;have bC:=bB.keep A aA;have ae:=M.trans (W.below t6 M.size);have aT:=(bz.r1 (dR _)).keep A;have bS:=(ca.below I).keep A;have C:=uv a2 (vJ bC (vJ ae aT));clear LO bz E bB I M W A aA bC ae aT b6 b5;go_upto_region 5 with fail
 clear ba bk;generalize ab.setCell ⟨w.1.size,2,none⟩ (.slice n (es.length-1) c)=bW at*;have bb:bW.cell? ⟨w.1.size,3,none⟩=some (.slice (nv p).va es.length (nv p).vc):=by rw[<-x.out.2];exact a2.cell 3
 have H:=kz _ _ _ _ b2 bW bS O uA;clear a2;go_wp2_with fail;refine H.mono ?_;rintro e ac ⟨l,m,rfl,J,bA⟩;have F:=C.out.1.below J;have bE:=C.out.2.1.below J;have N:=C.out.2.2.1.trans (J.mono C.out.2.2.1.size);have aX:=C.out.2.2.2.below J;have bc:ac.cell? ⟨w.1.size,3,none⟩=some (.slice (nv p).va (ndL 0 es).vals.length (nv p).vc):=F.cell 3;have bl:=F.free 3;have X:=ax ac w.1.size 3 (.slice l (es.length-1) m);have a3:=F.set 3 (.slice l (es.length-1) m);have B:=aw (t:=9) X F uB;have aB:=aw (t:=3) X F uB;have y:a.length=es.length-1:=by
  have L:=C1 List.length G.out.1;rw[ky (by rw[y2];exact O)]at L;simpa using L
 have bf:((ndc (nv p) (ndL 0 es)).set 2 (.slice n (es.length-1) c)).set 3 (.slice l (es.length-1) m)=ndc ⟨n,c,l,m,(nv p).da,(nv p).dc,(nv p).sa,(nv p).sc⟩ (ndL 0 a):=by
  simp[ndc,ndL,y]
 rw[bf]at a3;have bF:RNd (ac.setCell ⟨w.1.size,3,none⟩ (.slice l (es.length-1) m)) ⟨n,c,l,m,(nv p).da,(nv p).dc,(nv p).sa,(nv p).sc⟩ (ndL 0 a):=by
  have L:=bE.keep B aB;have bm:=(bA.r1 (dR _)).keep B;have bn:=aX.keep B;rw[<-G.out.2]at bm;rw[<-G.out.1]at bn;refine⟨?_,?_,L.kids,L.signs⟩
  ·show R1 _ _ _ (a.map (·.1)).length _ (os (a.map (·.1)));rw[y2,y];exact bn
  ·show R1 _ _ _ (a.map (·.2)).length _ (os (a.map (·.2)));rw[y2,y];exact bm
 have S:=uv a3 (vJ bF (N.trans (X.below t6 N.size)));clear H bA J F bE N aX X a3 B aB bf bF y bb C f;go_upto_region 6 with fail
 clear bc bl;generalize ac.setCell ⟨w.1.size,3,none⟩ (.slice l (es.length-1) m)=cb at*;generalize (⟨n,c,l,m,(nv p).da,(nv p).dc,(nv p).sa,(nv p).sc⟩:NdV)=vL at*;generalize ad:ndL 0 a=T at*;have a5:Hid _:=ad;have an:=S.out.1;have bP:=S.out.2.1;have stV:=a6.out.below S.out.2.2;clear ad;have a7:Hid (∀(u:World)(k:Nat)(v:NdV)(bY:NdK),Blk u 176 k (ndc v bY)->(Instr.loadAt 176 (.pointer (some ⟨k,0,none⟩))).run prog u= .ok (.agg (ndc v bY).toArray) u):=fun u k v bY b9=>jI u k v bY b9;have K:=bDr cb;have ap:=an.below K;have Q:=bP.below K;have q:=stV.below K;have a4:Hid _:=K;refine az (fun u=>u.cell? ⟨g,0,none⟩=some (.slice (some ⟨b,0,none⟩) ns.length nc)/\(Instr.loadAt 176 (.pointer (some ⟨w.1.size,0,none⟩))).run prog u= .ok (.agg (ndc vL T).toArray) u) (fun k=>decide (7<=k)) vk ?_;clear K an bP;generalize cb.drew=a0 at*;have cs:a0.cell? ⟨g,0,none⟩=some (.slice (some ⟨b,0,none⟩) ns.length nc)/\(Instr.loadAt 176 (.pointer (some ⟨w.1.size,0,none⟩))).run prog a0= .ok (.agg (ndc vL T).toArray) a0:=⟨q.blk.cell 0,a7.out _ _ _ _ ap⟩;refine aj 0 cs ?_;refine aj 1 cs ?_;refine aj 2 cs ?_;refine aj 3 cs ?_;refine aj 4 cs ?_;refine aM 5 (.agg (ndc vL T).toArray) cs ?hy5 ?_
 case hy5=>exact fun u bs=>bo (p:= .pointer (some ⟨w.1.size,0,none⟩)) rfl rfl bs.2
 refine aj 6 cs ?_;refine ah 7 fun b1 U=> ?_;refine iY q Q ak rfl rfl rfl ?_;intro b3 R aS;refine aU U ?_;clear U b1 cs;have b0:Hid (UQ B0 g rest rt (some ⟨b,0,none⟩) w b3 (ns.set p T)):=R.uq (((OnlyS.ofBelow S.out.2.2).trans (OnlyS.ofBelow a4.out)).trans ((OnlyS.ofB aS).mono (fun k _ b7=>v6 (by rw[b7])))) (v7 rfl);clear R q aS ap Q stV;go_wp2_with fail;refine B3 (results_none rfl _ _ _) rfl ?_;rw[bZ.out];refine⟨rfl,_,[p],b0.out,fun j cg b8=>BV (fun e=>b8 (by simp[e])),vo,vo,?_,rU vo _⟩;rw[SRep];exact⟨p,rfl,rfl,by rw[a5.out];exact List.getElem?_set_self ak⟩
theorem yn{k n t}(h:wf n t):wfb n (bN k n t):=by
 cases a:bare (bN k n t)with
 |false=>exact v7 (kM h a)
 |true=>
  right;rcases aO h with⟨id,es,rfl,rfl⟩|⟨id,L,m,rfl,rfl⟩
  ·rw[bN]at a ⊢;rw[bare,List.isEmpty_iff]at a;exact v7 ⟨rfl,by rw[a]⟩
  ·rw[bN]at a ⊢;simp only[ct]at a ⊢;rw[bare,ct,List.isEmpty_iff]at a;exact v6 ⟨m,rfl,by rw[a]⟩
theorem Gx(k n id L)(cW:wf (n+1) (.node id (kds L)))(b7:∀x∈L,pf B0 g rest rt k n x.2):pf B0 g rest rt k (n+1) (.node id (kds L)):=by
 intro w ns nv na nc P dX a7 cR t dD U;obtain⟨cq,N,T,A⟩:=bq.1 cW;rw[SRep]at cR;obtain⟨p,us,G,rfl,cP,ag,C⟩:=cR;cases cP;have s:=jD (k:=k) cq;have bY:=C.len;have bE:=C.sgs;obtain⟨dP,bS,dS,a8,B,cT,bv,D,bm,E⟩:=C.at s;have c:=(zz.1 t).2;have r:=(zz.1 t).1;have ap:bS.Nodup:=by rw[B]at c;rw[z8,z8]at c;exact c.2.1.1
 have l:∀j,j∈bS->j∈G:=fun j f=>by rw[B];simp[f]
 have b1:Hid (bN k (n+1) (.node id (kds L))= .node 0 (kds (fE (L.set (kid k L) ((L.getD (kid k L) t0).1,bN k n (L.getD (kid k L) t0).2)) (kid k L)))):=by show _= _;rw[bN];simp only[ct]
 have bB:kid k L=iD k (us.tail.map (·.1)):=by rw[bE];rfl
 have b4:Hid _:=b7 _ (bO (d:=t0) s);have bx:eP k n (L.getD (kid k L) t0).2=true:=by rw[eP,ct]at U;exact U
 have aT:=N _ (bO (d:=t0) s);have F:=yn (k:=k) aT;have H:=kM (k:=k) aT;have am:(us.map (·.2)).getD (kid k L) 0=a8:=by
  have:=eF (·.2) us (kid k L) ((strOfNums [],0):Pl);rw[bv]at this;exact this
 have V:kid k L<us.length:=uA;have bg:L.length<=100:=by
  have da:=gQ (sgs L);rw[gC]at da;rw[dm]at A;omega
 have dE:us.length<=100:=uA;generalize J:bN k n (L.getD (kid k L) t0).2=d at*;have b6:=uv C (vJ c (vJ s (vJ B (vJ D (vJ E (vJ t (vJ r (vJ l (vJ F (vJ H (vJ N (vJ T J))))))))))));have ad:=uv bm (vJ ap bx);have b5:Hid _:=bg;have b3:Hid _:=am;generalize kid k L=q at*;have ba:Hid _:=a7;obtain⟨b,rfl,Y,cv,aB⟩:=a7.cells ag;have ch:w.cell? ⟨g,0,none⟩=some (.slice (some ⟨b,0,none⟩) ns.length nc):=a7.blk.cell 0;have a6:=bAl w (.cells (ndc (nv p) (ndI id us)).toArray 176);have c0:=aq w 176 (ndc (nv p) (ndI id us)).toArray;have ca:=cv.below a6;have c4:(prog.info? 176).map (·.size)=some (ndc (nv p) (ndI id us)).length:=aD;clear C c B D E t bv bm ap cT cW b7 cq N T A bE bY aT F H J U bx l r bg s;go_enter func131,ntmps131;go_upto_region 1 with(first|(refine dG rfl 176 _ rfl b (p*6) rfl (ndc (nv p) (ndI id us)) _ Y underlying176 rfl c4 ?_)|(refine bt rfl 176 _ _ rfl w (ndc aF nd0).toArray (ndc (nv p) (ndI id us)).toArray 176 rfl rfl aD rfl (cy _ _) ?_))
 change Code.wp _ _ _ _ (w.alloc (.cells (ndc (nv p) (ndI id us)).toArray 176));generalize w.alloc (.cells (ndc (nv p) (ndI id us)).toArray 176)=c5 at*;have ab:Blk c5 176 w.1.size (ndc (nv p) (ndI id us)):=c0;have ce:c5.cell? ⟨w.1.size,0,none⟩=some (.int .i64 id):=ab.cell 0;have cn:=ab.free 0;have X:Hid _:=ab;clear c0 ab ch Y cv;go_upto_region 2 with fail
 have a5:=ax c5 w.1.size 0 (.int .i64 0);have cX:=Blk.set X.out 0 (.int .i64 0);have a3:=ca.keep (aw a5 X.out uB) (aw a5 X.out uB);have bX:=a6.trans (a5.below t6 a6.size);clear X ca a6 a5 ce cn a7 ag c4;generalize c5.setCell ⟨w.1.size,0,none⟩ (.int .i64 0)=cc at*;have aX:Blk cc 176 w.1.size (ndc (nv p) (ndI 0 us)):=cX;have c2:RNd cc (nv p) (ndI 0 us):=⟨a3.keys,a3.vals,a3.kids,a3.signs⟩;have c9:cc.cell? ⟨w.1.size,1,none⟩=some (.bool false):=aX.cell 1;have stV:=ba.out.below bX;have ds:=(cE ba.out.nodes b (by simp[rb])).2;have b0:Hid _:=bX;generalize bd:ndI 0 us=z at*;have a9:Hid _:=bd;generalize cV:nv p=vL at*;clear cX a3 bX bd;have b8:Hid (∀(u:World)(k:Nat)(v:NdV)(c6:NdK),Blk u 176 k (ndc v c6)->(Instr.loadAt 176 (.pointer (some ⟨k,0,none⟩))).run prog u= .ok (.agg (ndc v c6).toArray) u):=fun u k v c6 dp=>jI u k v c6 dp;go_upto_region 7 with fail
 clear c9;have ae:=bDr cc;have a0:=aX.below ae;have W:=c2.below ae;have I:=stV.below ae;have b2:Hid _:=ae;refine az (fun u=>u.cell? ⟨g,0,none⟩=some (.slice (some ⟨b,0,none⟩) ns.length nc)/\(Instr.loadAt 176 (.pointer (some ⟨w.1.size,0,none⟩))).run prog u= .ok (.agg (ndc vL z).toArray) u) (fun k=>decide (7<=k)) vk ?_;clear ae aX c2;generalize cc.drew=bW at*;have cs:bW.cell? ⟨g,0,none⟩=some (.slice (some ⟨b,0,none⟩) ns.length nc)/\(Instr.loadAt 176 (.pointer (some ⟨w.1.size,0,none⟩))).run prog bW= .ok (.agg (ndc vL z).toArray) bW:=⟨I.blk.cell 0,b8.out _ _ _ _ a0⟩;refine aj 0 cs ?_;refine aj 1 cs ?_;refine aj 2 cs ?_;refine aj 3 cs ?_;refine aj 4 cs ?_;refine aM 5 (.agg (ndc vL z).toArray) cs ?hy5 ?_
 case hy5=>exact fun u cz=>bo (p:= .pointer (some ⟨w.1.size,0,none⟩)) rfl rfl cz.2
 refine aj 6 cs ?_;refine ah 7 fun c8 ag=> ?_;refine iY I W aB rfl rfl rfl ?_;intro ac a4 S;refine aU ag ?_;clear ag c8 cs;have a1:=a0.only S uA;have a2:=W.keep (cx S (lj I.nodes) uB) (cx S (lj I.nodes) uB);have bb:UFr g (some ⟨b,0,none⟩) w ac:=((OnlyS.ofBelow b0.out).trans (OnlyS.ofBelow b2.out)).trans ((OnlyS.ofB S).mono (fun k _ dk=>v6 (by rw[dk])));have cg:ac.cell? ⟨w.1.size,5,none⟩=some (.slice vL.sa z.signs.length vL.sc):=a1.cell 5;have O:Hid (z.signs=us.tail.map (·.1)/\z.kids=us.map (·.2)):=by show _/\_;rw[<-a9.out];exact⟨rfl,rfl⟩
 have cS:z.signs.length<=100:=by rw[O.out.1];simp;omega
 have bT:=rh _ _ _ _ k ac a2.signs rfl uA;rw[O.out.1,<-bB]at bT;rw[O.out.1]at cg cS;have K:=uv a4 (vJ a1 (vJ a2 bb));clear I a4 S a0 W stV a1 a2 bb bB;generalize (us.tail.map (·.1)).length=sl at*;go_wp2_with fail;refine bT.mono ?_;rintro e d1 ⟨rfl,bF⟩;obtain rfl:=bF.symm;clear bF bT cg;obtain⟨C,c,s,B,D,E,t,r,l,F,H,N,T,J⟩:=b6.out;have a:(ns.set p z).length=ns.length:=BD;have m:∀j,j∈G->(ns.set p z)[j]?=ns[j]?:=fun j f=>BV (fun e=>r (by rw[e];exact f));have cb:=b4.out ac (ns.set p z) _ _ nc bS a8 K.out.1 (ad.out.1.keep (fun j f=>m j (l j f))) ad.out.2.1 (by rw[a];omega) ad.out.2.2;have c3:R1 3 ac vL.da us.length vL.dc (on (us.map (·.2))):=by have:=K.out.2.2.1.kids;rw[O.out.2,y2]at this;exact this
 have cf:ac.cell? ⟨w.1.size,4,none⟩=some (.slice vL.da us.length vL.dc):=by have h:=K.out.2.1.cell 4;rw[show(ndc vL z)[4]?=some (.slice vL.da z.kids.length vL.dc)from rfl,O.out.2,y2]at h;exact h
 obtain⟨dV,dW,ck,cj⟩:=c3.get V;rw[cF _ _ (by simpa using V),am]at cj;rw[ck]at cf;have c7:=uv m a;clear c3 ck C c B D E t r l F H N T J m am cV a s;go_wp2_with fail;refine cb.mono ?_;rintro e d2 ⟨rfl,ms,dr,db,Z,cD,cA,bn,bk⟩;clear cb cf cj;obtain⟨C,c,s,B,D,E,t,r,l,F,H,N,T,J⟩:=b6.out;obtain⟨m,a⟩:=c7.out;obtain⟨dI,bP,dF,bR,cp,bC⟩:=db;obtain⟨bZ,af,Q⟩:=xX (o:=none) (y:=0) (R:=[]) (C.keep m) c s B (D.keep (fun j f=>m j (by rw[B];simp[f]))) (E.keep (fun j f=>m j (by rw[B];simp[f]))) Z bn (gE.2 ⟨rfl,rfl⟩) (by rw[wP];exact bk);have cl:L.take q++((L.getD q t0).1,d)::((none:Option Kd).toList++L.drop (q+1))=L.set q ((L.getD q t0).1,d):=by
  rw[List.set_eq_take_append_cons_drop,B4 s]
  rfl
 have cm:us.take q++((L.getD q t0).1,a8)::(ouP none 0++us.drop (q+1))=us:=xY V _ _ (by
  have h:=(C.at s);obtain⟨_,_,_,v',_,_,bu,_,_,_⟩:=h;have dq:v'=a8:=by
   have cr:=eF (·.2) us q ((strOfNums [],0):Pl);rw[bu]at cr;exact(cr.symm.trans b3.out)
  rw[bu,dq])
 rw[cl,cm]at af;have bf:ms[p]?=some (ndI 0 us):=by
  rw[Z p (by rw[a];exact aB) (fun h=>r (l p h)),List.getElem?_set_self aB,a9.out]
 rw[a]at cD cA Q;have aA:p∉bZ:=fun dc=>by
  rcases Q.2 p dc with h|h
  ·exact r h
  ·omega
 have ak:(L.set q ((L.getD q t0).1,d)).getD q t0=((L.getD q t0).1,d):=by simp[List.getD_eq_getElem?_getD,s]
 have b9:=Gu (p:=q) (n:=n) bR bf af (zz.2 ⟨aA,Q.1⟩) (by rw[BD];exact s) (fun j f cM=>by
  rw[BD]at f;have:(L.set q ((L.getD q t0).1,d)).getD j t0=L.getD j t0:=by simp[List.getD_eq_getElem?_getD,List.getElem?_set_ne (Ne.symm cM)]
  rw[this];exact N _ (bO f)) (by rw[ak];exact F) (by rw[ak];exact H) (by rw[BD];exact b5.out) (by rw[ro];exact T) uA
 have bc:=K.out.2.2.2.step cp (v7 rfl);have an:bP=some ⟨b,0,none⟩\/∃k,bP=some ⟨k,0,none⟩/\w.1.size<=k:=by
  rcases bC with h|⟨k1,h,hk1⟩
  ·exact v7 h
  ·exact v6 ⟨k1,h,wg K.out.2.2.2.size hk1⟩
 have i:=uv bc (vJ an (vJ Q (vJ Z (vJ l (vJ m a)))));clear C c B D E t r l F H N T J m Z bn bk bR cp bC af Q cl cm bf aA ak bc an a;go_wp2_with fail;refine b9.mono ?_;rintro e d3 ⟨rfl,c1,P',bs,aS,dl,dd,br,bl⟩;have M:=uv bs (vJ aS (vJ br bl));clear b9 bs aS br bl;go_wp2_with fail
 go_end0
 rw[b1.out];refine⟨rfl,c1,P',UQ.after M.out.1 i.out.1 i.out.2.1,fun j f cL=> ?_,uA,uA,M.out.2.2.1,M.out.2.2.2.1,fun j f=> ?_⟩
 ·have bz:j∉G:=fun h=>cL (by simp[h]);have bA:p≠j:=fun e=>cL (by simp[e]);have cB:j∉p::bZ:=fun h=>by
   rcases w3.1 h with h|h
   ·exact bA h.symm
   ·rcases i.out.2.2.1.2 j h with A|A
    ·exact bz A
    ·omega
  rw[M.out.2.1 j uA cB,i.out.2.2.2.1 j (by rw[i.out.2.2.2.2.2.2];exact f) (fun h=>bz (i.out.2.2.2.2.1 j h)),BV bA]
 ·rcases M.out.2.2.2.2 j f with A|A
  ·rcases w3.1 A with A|A
   ·exact v7 (by simp[A])
   ·rcases i.out.2.2.1.2 j A with h4|h4
    ·exact v7 (by simp[h4])
    ·exact v6 h4
  ·exact v6 uA
theorem Gy{k}:∀(n:Nat)(t:Tr),wf n t->pf B0 g rest rt k n t:=by
 intro n;induction n with
 |zero=>
  intro t a;rcases aO a with⟨id,es,_,rfl⟩|⟨id,L,m,e,_⟩
  ·exact Gw k id es (by have:=im es;have:=(dA.1 a).2.2;omega)
  ·omega
 |succ n ih=>
  intro t a;rcases aO a with⟨id,es,e,_⟩|⟨id,L,m,e,rfl⟩
  ·omega
  ·exact Gx k n id L a (fun x hx=>ih _ ((bq.1 a).2.1 x hx))
end
