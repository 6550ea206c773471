import Derived.Test.YtglbanolhhjjiaaGreatDoorFo31
import Derived.Test.YtglbanolhhjjiaaGreatDoorFo32
namespace Go.Proofs.YtglbanolhhjjiaaGreatDoor
open Go.Proofs.Tryz
open Go.RowKit
set_option linter.unusedVariables false
set_option maxRecDepth 100000
set_option maxHeartbeats 32000000
section
variable {B0 g:Nat} {rest:List Value} {rt:Int} {w:World} {ns ms:List NdK} {nv:Nat->NdV} {na:Option Addr} {nc:Nat}
theorem Gt{n a c H I D E N B u v sg j k}(C:wf n a)(r:wf n c)(hA:SRep ns a H [(strOfNums [],D)])(i:SRep ns c I [(strOfNums [],E)])(g:RtN ns a D u N j)(h:RtN ns c E v B k):kSz (j++k) (jnK N B sg)=szT (dL a sg c):=by
 have b:=g.nd;have d:=h.nd;rcases aO C with⟨id,es,rfl,rfl⟩|⟨id,L,m,rfl,rfl⟩
 ·rcases aO r with⟨f,y,_,rfl⟩|⟨f,L,m,e,_⟩
  ·rw[SRep]at hA i;obtain⟨s,rfl,w,p⟩:=hA;obtain⟨t,rfl,x,q⟩:=i;cases w;cases x;have l:u=s:=by have:=g.pl;omega
   have o:v=t:=by have:=h.pl;omega
   subst l;subst o;rw[p]at b;rw[q]at d;cases b;cases d;have F:=g.sz;have G:=h.sz;simp only[kSz,ndL,szT,aH,v6,List.sum_nil,wR,if_true]at F G;simp only[dL,szT,kSz,jnK,ndL,kK,aH,v6,List.sum_nil,wR,if_true,F,G]
  ·omega
 ·rcases aO r with⟨f,y,e,_⟩|⟨f,M,Q,e,rfl⟩
  ·omega
  ·rw[SRep]at hA i;obtain⟨s,u1,O,rfl,w,p,z⟩:=hA;obtain⟨t,R,P,rfl,x,q,A⟩:=i;cases w;cases x;have l:u=s:=by have:=g.pl;omega
   have o:v=t:=by have:=h.pl;omega
   subst l;subst o;rw[p]at b;rw[q]at d;cases b;cases d;have J:j=[]:=by have:=g.keys;simpa [ndI]using this.symm
   have K:k=[]:=by have:=h.keys;simpa [ndI]using this.symm
   subst J;subst K;simp only[dL,szT,ct,wu (bq.1 C).1 (bq.1 r).1,kSz,jnK,ndI,z.sgs,A.sgs,dm];simp[lSz];omega
theorem ym{a:Type}{l:List a}{q}(b:q+1<l.length)(x):(l.set q x).eraseIdx (q+1)=l.take q++x::l.drop (q+2):=by
 rw[List.eraseIdx_eq_take_drop_succ,List.take_set,List.drop_set_of_lt t7,xd t7,List.set_append_right _ _ (by rw[wv];omega)];have:q-(l.take q).length=0:=by rw[wv];omega
 rw[this];simp
def MdP(B0 g:Nat)(rest:List Value)(rt:Int)(na:Option Addr)(w:World)(ns:List NdK)(i:Nat)(G:List Nat)(L:List Kd)(e:Ending)(w':World):Prop:=e= .returned (.tuple #[])/\∃(ms:List NdK)(P':List Nat),UQ B0 g rest rt na w w' ms/\(∀j,j<ns.length->j∉i::G->ms[j]?=ns[j]?)/\ns.length<=ms.length/\ms.length<=ns.length+1/\SRep ms (.node 0 (kds L)) P' [(strOfNums [],(i:Int))]/\fb (i::G) P' ns.length
theorem rU{P}(b:P.Nodup)(m):fb P P m:=⟨b,fun j a=>u5 a⟩
theorem Gu(ad:USt B0 g rest rt w ns nv na nc){i p n us G M}(E:ns[i]?=some (ndI 0 us))(t:SRep ns (kds M) G us)(r:(i::G).Nodup)(bu:p<M.length)(T:∀j,j<M.length->j≠p->wf n (M.getD j t0).2)(a9:wfb n (M.getD p t0).2)(aX:bare (M.getD p t0).2=false->wf n (M.getD p t0).2)(b3:M.length<=100)(ab:∀s∈sgs M,eQ s)(bS:ns.length<=1048574):
 Calls prog 160 #[.pointer (some ⟨g,0,none⟩),.int .i64 (i:Nat),.int .i64 (p:Nat)] w fun e w'=>MdP B0 g rest rt na w ns i G (fE M p) e w':=by
 have K:=(wb.1 E).1;have Y:=t.len;obtain⟨bf,bZ,bg,v,ag,bX,a2,aA,aB,aS⟩:=t.at bu;obtain⟨pc,bP,es,c⟩:=aB.rt a9;have ac:(us.map (·.2)).getD p 0=(pc:Int):=by
  have:=eF (·.2) us p ((strOfNums [],0):Pl);rw[a2]at this;rw[<-c.pl];exact this
 have d:=(y1.1 r).2;cases F:bare (M.getD p t0).2 with
 |true=>
  refine(FP ad E t7 ac c.nd t7 t7 (c.bare.1 F)).mono ?_;rintro e w' ⟨rfl,f⟩;have H:fE M p=M.eraseIdx p:=by unfold fE;simp only[F,if_true]
  rw[H];have W:=aS.cat aA;rw[<-List.eraseIdx_eq_take_drop_succ,<-List.eraseIdx_eq_take_drop_succ]at W;have X:fb G (bf++bg) ns.length:=by
   rw[ag];rw[ag]at d;refine⟨?_,fun j b=>u5 ?_⟩
   ·rw[zd,zd]at d;rw[zd];exact⟨d.1,d.2.1.2.1,fun x hx y bx=>d.2.2 x hx y (by simp[bx])⟩
   ·rcases wE.1 b with b|b
    ·simp[b]
    ·simp[b]
  obtain⟨U,V⟩:=rM r K t1 W X;refine⟨rfl,_,_,f,fun j b Z=>A4 (fun e=>Z (by simp[e])),uB,uB,U,V⟩
 |false=>
  have S:=aX F;have R:bP.keys.length+bP.kids.length≠0:=fun e=>by
   have:=c.bare.2 ⟨x8 t7,x8 t7⟩;rw[F]at this;cases this
  have bW:=c.small;by_cases D:60<=szT (M.getD p t0).2\/M.length<2
  ·refine(FQ ad E t7 ac c.nd t7 t7 es c.keys c.vals (by have:=c.lsz;omega) (by have:=c.gsz;omega) t7 R (by rw[c.sz,Y];exact D)).mono ?_;rintro e w' ⟨rfl,f⟩;have H:fE M p=M:=by unfold fE;simp only[F,Bool.false_eq_true,if_false,BC D]
   rw[H];refine⟨rfl,ns,i::G,f,fun _ _ _=>rfl,t1,t7,?_,rU r _⟩;rw[SRep];exact⟨i,us,G,rfl,rfl,E,t⟩
  ·have bR:¬60<=szT (M.getD p t0).2:=fun z=>D (u5 z);obtain⟨q,a5⟩:∃q,q+1=max p 1:=⟨max p 1-1,t7⟩;have bT:q+1<M.length:=t7;obtain⟨ae,bc,bY,b4,ak,bv,Q,aT,C,I⟩:=t.at (show q<M.length by omega);rw[<-my (l:=M.drop (q+1)) (p:=0) t0 (by simp;omega)]at I;simp only[List.take_zero,w4,wP]at I;obtain⟨bF,ba,bd,O,af,u,o,P⟩:=er.1 I;have br:((M.drop (q+1)).getD 0 t0)=M.getD (q+1) t0:=by rw[ng,wR]
   rw[br]at o u;have L:wf n (M.getD q t0).2:=by
    by_cases e:q=p
    ·rw[e];exact S
    ·exact T q t7 e
   have N:wf n (M.getD (q+1) t0).2:=by
    by_cases e:q+1=p
    ·rw[e];exact S
    ·exact T (q+1) t7 e
   obtain⟨bC,bb,b0,h⟩:=C.rt (u5 L);obtain⟨bE,B,b1,k⟩:=o.rt (u5 N);have a3:(us.map (·.2)).getD q 0=(bC:Int):=by
    have:=eF (·.2) us q ((strOfNums [],0):Pl);rw[Q]at this;rw[<-h.pl];exact this
   have a0:us.getD (q+1) (strOfNums [],0)=((M.getD (q+1) t0).1,bF):=by
    have z:=B8 (fun l=>l.getD 0 ((strOfNums [],0):Pl)) u;simp only[ng,wR]at z;rw[z]
    rfl
   have a4:(us.map (·.2)).getD (q+1) 0=(bE:Int):=by
    have:=eF (·.2) us (q+1) ((strOfNums [],0):Pl);rw[a0]at this;rw[<-k.pl];exact this
   have a8:(us.tail.map (·.1)).getD q (strOfNums [])=(M.getD (q+1) t0).1:=by rw[t.sgs,mx]
   have a6:=h.small;have a7:=k.small;have am:=Gt (sg:=(M.getD (q+1) t0).1) L N C o h k;have a1:aH (jnK bb B (M.getD (q+1) t0).1).signs<=1000000:=by
    have W:=h.gsz;have b2:=k.gsz;simp only[jnK];split
    ·omega
    ·rw[iE,fW];have:gSz (M.getD (q+1) t0).1<=45:=kL (by rw[<-mx];exact ab _ (bO (by rw[gC];omega)));omega
   refine(FW ad E t7 ac c.nd t7 t7 es c.keys c.vals (by have:=c.lsz;omega) (by have:=c.gsz;omega) t7 R (by rw[c.sz];omega) a5 t7 a3 a4 h.nd k.nd a6 a7 a8 h.keys h.vals k.keys k.vals (by rw[kK];have:=h.lsz;have:=k.lsz;omega) a1).mono ?_;rintro e w' ⟨rfl,f⟩;rw[am]at f;have A:G=ae++((bc++bd)++O):=by rw[ak,af,vJ]
   have a:∀j,j<ns.length->(ns++[jnK bb B (M.getD (q+1) t0).1])[j]?=ns[j]?:=fun j b=>wB b;have H:fE M p=if 240<szT (dL (M.getD q t0).2 (M.getD (q+1) t0).1 (M.getD (q+1) t0).2)then M else(M.set q ((M.getD q t0).1,dL (M.getD q t0).2 (M.getD (q+1) t0).1 (M.getD (q+1) t0).2)).eraseIdx (q+1):=by
    unfold fE;simp only[F,Bool.false_eq_true,if_false,BX D,<-a5,Nat.add_sub_cancel]
   rw[H];by_cases m:240<szT (dL (M.getD q t0).2 (M.getD (q+1) t0).1 (M.getD (q+1) t0).2)
   ·rw[BC m];rw[mjL,BC m]at f;refine⟨rfl,_,i::G,f,fun j b _=>a j b,uB,uB,?_,rU r _⟩;rw[SRep];exact⟨i,us,G,rfl,rfl,(a i K).trans E,t.grow a⟩
   ·rw[BX m];rw[mjL,BX m]at f;have J:=d;rw[A,zd,zd]at J;obtain⟨bk,bs,ap,an⟩:=FZ (ms:=ns++[jnK bb B (M.getD (q+1) t0).1]) (q:=ns.length) (sg:=(M.getD (q+1) t0).1) L N C o h.pl k.pl h.nd k.nd J.2.1.1 (fun j b=>a j (by rcases wE.1 b with z|z;exact C.lt j z;exact o.lt j z)) (by rw[wX t1,Nat.sub_self];rfl) t1;have X:fb G (ae++(bk++O)) ns.length:=by
     rw[A];rw[A]at d;refine xW d (fun j b=>t.lt j (by rw[A];exact b)) ⟨ap,fun j b=> ?_⟩;rcases an j b with z|z
     ·exact u5 z
     ·exact u4 t7
    have bl:(M.set q ((M.getD q t0).1,dL (M.getD q t0).2 (M.getD (q+1) t0).1 (M.getD (q+1) t0).2)).eraseIdx (q+1)=M.take q++((M.getD q t0).1,dL (M.getD q t0).2 (M.getD (q+1) t0).1 (M.getD (q+1) t0).2)::M.drop (q+2):=ym t7 _;have bm:(us.set q ((us.getD q (strOfNums [],0)).1,(ns.length:Int))).eraseIdx (q+1)=us.take q++((M.getD q t0).1,(ns.length:Int))::us.drop (q+2):=by rw[ym t7,Q]
    rw[bm]at f;rw[bl];have bn:ba=us.drop (q+2):=by
     have z:=B8 List.tail u;rw[List.tail_drop]at z;exact z.symm
    rw[bn]at P;have bz:=aT.grow a;have bA:=P.grow a;have bB:SRep (ns++[jnK bb B (M.getD (q+1) t0).1]) (kds (((M.getD q t0).1,dL (M.getD q t0).2 (M.getD (q+1) t0).1 (M.getD (q+1) t0).2)::M.drop (q+2))) (bk++O) (((M.getD q t0).1,(ns.length:Int))::us.drop (q+2)):=er.2 ⟨_,_,bk,O,rfl,rfl,bs,bA⟩;obtain⟨U,V⟩:=rM r K uB (bB.cat bz) X;refine⟨rfl,_,_,f,fun j b Z=> ?_,uB,uB,U,V⟩;rw[A4 (fun e=>Z (by simp[e])),a j b]
end
section
variable {B0 g:Nat} {rest:List Value} {rt:Int}
def Gv(B0 g:Nat)(rest:List Value)(rt:Int)(na:Option Addr)(w:World)(ns:List NdK)(P:List Nat)(p:Int)(d:Nat)(t:Tr)(e:Ending)(w':World):Prop:=
 e= .returned (.tuple #[])/\∃(ms:List NdK)(P':List Nat),UQ B0 g rest rt na w w' ms/\(∀j,j<ns.length->j∉P->ms[j]?=ns[j]?)/\ns.length<=ms.length/\ms.length<=ns.length+d/\SRep ms t P' [(strOfNums [],p)]/\fb P P' ns.length
def pf(B0 g:Nat)(rest:List Value)(rt:Int)(k:ByteArray)(n:Nat)(t:Tr):Prop:= ∀(w:World)(ns:List NdK)(nv:Nat->NdV)(na:Option Addr)(nc:Nat)(P:List Nat)(p:Int),USt B0 g rest rt w ns nv na nc->SRep ns t P [(strOfNums [],p)]->P.Nodup->ns.length+n<=1048574->eP k n t=true->
 Calls prog 131 #[.pointer (some ⟨g,0,none⟩),.int .i64 p,.string k] w fun e w'=>Gv B0 g rest rt na w ns P p n (bN k n t) e w'
theorem Gw(k id)(es:List En)(cb:es.length<=1000):pf B0 g rest rt k 0 (.leaf id es):=by
 intro w ns nv na nc P cg Y bu cc ce n;rw[SRep]at bu;obtain⟨p,rfl,bs,T⟩:=bu;cases bs;have N:plc k (es.map (·.1))<es.length:=by
  rw[eP,il,wz,decide_eq_true_iff,x7]at n;exact n.1
 have bY:Hid (bN k 0 (.leaf id es)= .leaf 0 (es.eraseIdx (plc k (es.map (·.1))))):=by show _= _;rw[bN,ra]
 have ae:(es.eraseIdx (plc k (es.map (·.1)))).map (·.1)=dx (es.map (·.1)) (plc k (es.map (·.1))):=by rw[jE,dx,List.eraseIdx_eq_take_drop_succ]
 have af:(es.eraseIdx (plc k (es.map (·.1)))).map (·.2)=dx (es.map (·.2)) (plc k (es.map (·.1))):=by rw[jE,dx,List.eraseIdx_eq_take_drop_succ]
 have F:=t6 ae af;have a5:Hid _:=Y;obtain⟨b,rfl,r,bn,ag⟩:=Y.cells T;have bc:w.cell? ⟨g,0,none⟩=some (.slice (some ⟨b,0,none⟩) ns.length nc):=Y.blk.cell 0;have s:Hid ((ndL id es).keys.length=es.length/\(ndL id es).vals.length=es.length):=by show _/\_;simp[ndL]
 have X:=bAl w (.cells (ndc (nv p) (ndL id es)).toArray 176);have bv:=aq w 176 (ndc (nv p) (ndL id es)).toArray;have a7:=bn.below X;have bS:(prog.info? 176).map (·.size)=some (ndc (nv p) (ndL id es)).length:=aD;clear ae af n;go_enter func131,ntmps131;go_upto_region 1 with(first|(refine dG rfl 176 _ rfl b (p*6) rfl (ndc (nv p) (ndL id es)) _ r underlying176 rfl bS ?_)|(refine bt rfl 176 _ _ rfl w (ndc aF nd0).toArray (ndc (nv p) (ndL id es)).toArray 176 rfl rfl aD rfl (cy _ _) ?_))
 change Code.wp _ _ _ _ (w.alloc (.cells (ndc (nv p) (ndL id es)).toArray 176));generalize w.alloc (.cells (ndc (nv p) (ndL id es)).toArray 176)=bW at*;have y:Blk bW 176 w.1.size (ndc (nv p) (ndL id es)):=bv;have a8:bW.cell? ⟨w.1.size,0,none⟩=some (.int .i64 id):=y.cell 0;have bf:=y.free 0;have q:Hid _:=y;clear bv y bc r bn;go_upto_region 2 with fail
 have U:=ax bW w.1.size 0 (.int .i64 0);have C:=Blk.set q.out 0 (.int .i64 0);have d:=a7.keep (aw U q.out uv) (aw U q.out uv);have b3:=X.trans (U.below t1 X.size);clear q a7 X U a8 bf Y bS;generalize bW.setCell ⟨w.1.size,0,none⟩ (.int .i64 0)=h at*;replace C:Blk h 176 w.1.size (ndc (nv p) (ndL 0 es)):=C;replace d:RNd h (nv p) (ndL 0 es):=⟨d.keys,d.vals,d.kids,d.signs⟩;have b4:h.cell? ⟨w.1.size,1,none⟩=some (.bool true):=C.cell 1;have b5:h.cell? ⟨w.1.size,2,none⟩=some (.slice (nv p).ka es.length (nv p).kc):=by rw[<-s.out.1];exact C.cell 2
 have bP:R1 9 h (nv p).ka es.length (nv p).kc (os (es.map (·.1))):=by have:=d.keys;rwa [show(ndL 0 es).keys.length=es.length from s.out.1]at this
 have b9:R1 9 h (nv p).va es.length (nv p).vc (os (es.map (·.2))):=by have:=d.vals;rwa [show(ndL 0 es).vals.length=es.length from s.out.2]at this
 have G:=rg _ _ _ _ k h bP uB t7;have f:=t6 C (u2 d b3);clear C d;go_wp2_with fail;refine G.mono ?_;rintro e Z ⟨rfl,ak⟩;obtain rfl:=ak.symm;clear ak G;generalize plc k (es.map (·.1))=b1 at*;generalize a0:es.eraseIdx b1=a at*;clear a0;have LO:=kz _ _ _ _ b1 h bP N t7;go_wp2_with fail;refine LO.mono ?_;rintro e Z ⟨m,c,rfl,H,bx⟩;have D:=f.out.1.below H;have bA:=f.out.2.1.below H;have L:=f.out.2.2.trans (H.mono f.out.2.2.size);have a9:Z.cell? ⟨w.1.size,2,none⟩=some (.slice (nv p).ka (ndL 0 es).keys.length (nv p).kc):=D.cell 2;have bg:=D.free 2;have V:=ax Z w.1.size 2 (.slice m (es.length-1) c);have a1:=D.set 2 (.slice m (es.length-1) c);have z:=aw (t:=9) V D uv;have ap:=aw (t:=3) V D uv;have bB:=bA.keep z ap;have ad:=L.trans (V.below t1 L.size);have aS:=(bx.r1 (dR _)).keep z;have bR:=(b9.below H).keep z;have B:=t6 a1 (u2 bB (u2 ad aS));clear LO bx D bA H L V z ap bB ad aS b5 b4;go_upto_region 5 with fail
 clear a9 bg;generalize Z.setCell ⟨w.1.size,2,none⟩ (.slice m (es.length-1) c)=bT at*;have ba:bT.cell? ⟨w.1.size,3,none⟩=some (.slice (nv p).va es.length (nv p).vc):=by rw[<-s.out.2];exact a1.cell 3
 have G:=kz _ _ _ _ b1 bT bR N t7;clear a1;go_wp2_with fail;refine G.mono ?_;rintro e ab ⟨i,l,rfl,I,bz⟩;have E:=B.out.1.below I;have bC:=B.out.2.1.below I;have M:=B.out.2.2.1.trans (I.mono B.out.2.2.1.size);have aT:=B.out.2.2.2.below I;have bb:ab.cell? ⟨w.1.size,3,none⟩=some (.slice (nv p).va (ndL 0 es).vals.length (nv p).vc):=E.cell 3;have bk:=E.free 3;have W:=ax ab w.1.size 3 (.slice i (es.length-1) l);have a2:=E.set 3 (.slice i (es.length-1) l);have A:=aw (t:=9) W E uv;have aA:=aw (t:=3) W E uv;have x:a.length=es.length-1:=by
  have K:=B8 List.length F.out.1;rw[ky (by rw[x7];exact N)]at K;simpa using K
 have bd:((ndc (nv p) (ndL 0 es)).set 2 (.slice m (es.length-1) c)).set 3 (.slice i (es.length-1) l)=ndc ⟨m,c,i,l,(nv p).da,(nv p).dc,(nv p).sa,(nv p).sc⟩ (ndL 0 a):=by
  simp[ndc,ndL,x]
 rw[bd]at a2;have bE:RNd (ab.setCell ⟨w.1.size,3,none⟩ (.slice i (es.length-1) l)) ⟨m,c,i,l,(nv p).da,(nv p).dc,(nv p).sa,(nv p).sc⟩ (ndL 0 a):=by
  have K:=bC.keep A aA;have bl:=(bz.r1 (dR _)).keep A;have bm:=aT.keep A;rw[<-F.out.2]at bl;rw[<-F.out.1]at bm;refine⟨?_,?_,K.kids,K.signs⟩
  ·show R1 _ _ _ (a.map (·.1)).length _ (os (a.map (·.1)));rw[x7,x];exact bm
  ·show R1 _ _ _ (a.map (·.2)).length _ (os (a.map (·.2)));rw[x7,x];exact bl
 have R:=t6 a2 (u2 bE (M.trans (W.below t1 M.size)));clear G bz I E bC M aT W a2 A aA bd bE x ba B f;go_upto_region 6 with fail
 clear bb bk;generalize ab.setCell ⟨w.1.size,3,none⟩ (.slice i (es.length-1) l)=ca at*;generalize (⟨m,c,i,l,(nv p).da,(nv p).dc,(nv p).sa,(nv p).sc⟩:NdV)=vL at*;generalize ac:ndL 0 a=S at*;have a4:Hid _:=ac;have am:=R.out.1;have bF:=R.out.2.1;have stV:=a5.out.below R.out.2.2;clear ac;have a6:Hid (∀(u:World)(k:Nat)(v:NdV)(bX:NdK),Blk u 176 k (ndc v bX)->(Instr.loadAt 176 (.pointer (some ⟨k,0,none⟩))).run prog u= .ok (.agg (ndc v bX).toArray) u):=fun u k v bX b8=>jI u k v bX b8;have J:=bDr ca;have an:=am.below J;have O:=bF.below J;have o:=stV.below J;have a3:Hid _:=J;refine az (fun u=>u.cell? ⟨g,0,none⟩=some (.slice (some ⟨b,0,none⟩) ns.length nc)/\(Instr.loadAt 176 (.pointer (some ⟨w.1.size,0,none⟩))).run prog u= .ok (.agg (ndc vL S).toArray) u) (fun k=>decide (7<=k)) uA ?_;clear J am bF;generalize ca.drew=aX at*;have cs:aX.cell? ⟨g,0,none⟩=some (.slice (some ⟨b,0,none⟩) ns.length nc)/\(Instr.loadAt 176 (.pointer (some ⟨w.1.size,0,none⟩))).run prog aX= .ok (.agg (ndc vL S).toArray) aX:=⟨o.blk.cell 0,a6.out _ _ _ _ an⟩;refine aj 0 cs ?_;refine aj 1 cs ?_;refine aj 2 cs ?_;refine aj 3 cs ?_;refine aj 4 cs ?_;refine aM 5 (.agg (ndc vL S).toArray) cs ?hy5 ?_
 case hy5=>exact fun u br=>bo (p:= .pointer (some ⟨w.1.size,0,none⟩)) rfl rfl br.2
 refine aj 6 cs ?_;refine ah 7 fun b0 T=> ?_;refine iY o O ag rfl rfl rfl ?_;intro b2 Q aB;refine aU T ?_;clear T b0 cs;have bZ:Hid (UQ B0 g rest rt (some ⟨b,0,none⟩) w b2 (ns.set p S)):=Q.uq (((OnlyS.ofBelow R.out.2.2).trans (OnlyS.ofBelow a3.out)).trans ((OnlyS.ofB aB).mono (fun k _ b6=>u4 (by rw[b6])))) (u5 rfl);clear Q o aB an O stV;go_wp2_with fail;refine BB (results_none rfl _ _ _) rfl ?_;rw[bY.out];refine⟨rfl,_,[p],bZ.out,fun j cf b7=>A4 (fun e=>b7 (by simp[e])),uB,uB,?_,rU uB _⟩;rw[SRep];exact⟨p,rfl,rfl,by rw[a4.out];exact List.getElem?_set_self ag⟩
theorem yn{k n t}(b:wf n t):wfb n (bN k n t):=by
 cases a:bare (bN k n t)with
 |false=>exact u5 (kM b a)
 |true=>
  right;rcases aO b with⟨id,es,rfl,rfl⟩|⟨id,L,m,rfl,rfl⟩
  ·rw[bN]at a ⊢;rw[bare,List.isEmpty_iff]at a;exact u5 ⟨rfl,by rw[a]⟩
  ·rw[bN]at a ⊢;simp only[ct]at a ⊢;rw[bare,ct,List.isEmpty_iff]at a;exact u4 ⟨m,rfl,by rw[a]⟩
theorem Gx(k n id L)(cW:wf (n+1) (.node id (kds L)))(b7:∀x∈L,pf B0 g rest rt k n x.2):pf B0 g rest rt k (n+1) (.node id (kds L)):=by
 intro w ns nv na nc P dW a7 cR s dD U;obtain⟨cq,N,T,z⟩:=bq.1 cW;rw[SRep]at cR;obtain⟨p,us,G,rfl,cP,ag,C⟩:=cR;cases cP;have r:=jD (k:=k) cq;have bY:=C.len;have bE:=C.sgs;obtain⟨dP,bS,dS,a8,B,cT,bv,D,bm,E⟩:=C.at r;have c:=(y1.1 s).2;have m:=(y1.1 s).1;have ap:bS.Nodup:=by rw[B]at c;rw[zd,zd]at c;exact c.2.1.1
 have i:∀j,j∈bS->j∈G:=fun j f=>by rw[B];simp[f]
 have b1:Hid (bN k (n+1) (.node id (kds L))= .node 0 (kds (fE (L.set (kid k L) ((L.getD (kid k L) t0).1,bN k n (L.getD (kid k L) t0).2)) (kid k L)))):=by show _= _;rw[bN];simp only[ct]
 have bB:kid k L=iD k (us.tail.map (·.1)):=by rw[bE];rfl
 have b4:Hid _:=b7 _ (bO (d:=t0) r);have bx:eP k n (L.getD (kid k L) t0).2=true:=by rw[eP,ct]at U;exact U
 have aT:=N _ (bO (d:=t0) r);have F:=yn (k:=k) aT;have H:=kM (k:=k) aT;have am:(us.map (·.2)).getD (kid k L) 0=a8:=by
  have:=eF (·.2) us (kid k L) ((strOfNums [],0):Pl);rw[bv]at this;exact this
 have V:kid k L<us.length:=t7;have bg:L.length<=100:=by
  have da:=gQ (sgs L);rw[gC]at da;rw[dm]at z;omega
 have dE:us.length<=100:=t7;generalize J:bN k n (L.getD (kid k L) t0).2=d at*;have b6:=t6 C (u2 c (u2 r (u2 B (u2 D (u2 E (u2 s (u2 m (u2 i (u2 F (u2 H (u2 N (u2 T J))))))))))));have ad:=t6 bm (u2 ap bx);have b5:Hid _:=bg;have b3:Hid _:=am;generalize kid k L=q at*;have ba:Hid _:=a7;obtain⟨b,rfl,Y,cv,aB⟩:=a7.cells ag;have ch:w.cell? ⟨g,0,none⟩=some (.slice (some ⟨b,0,none⟩) ns.length nc):=a7.blk.cell 0;have a6:=bAl w (.cells (ndc (nv p) (ndI id us)).toArray 176);have c0:=aq w 176 (ndc (nv p) (ndI id us)).toArray;have ca:=cv.below a6;have c4:(prog.info? 176).map (·.size)=some (ndc (nv p) (ndI id us)).length:=aD;clear C c B D E s bv bm ap cT cW b7 cq N T z bE bY aT F H J U bx i m bg r;go_enter func131,ntmps131;go_upto_region 1 with(first|(refine dG rfl 176 _ rfl b (p*6) rfl (ndc (nv p) (ndI id us)) _ Y underlying176 rfl c4 ?_)|(refine bt rfl 176 _ _ rfl w (ndc aF nd0).toArray (ndc (nv p) (ndI id us)).toArray 176 rfl rfl aD rfl (cy _ _) ?_))
 change Code.wp _ _ _ _ (w.alloc (.cells (ndc (nv p) (ndI id us)).toArray 176));generalize w.alloc (.cells (ndc (nv p) (ndI id us)).toArray 176)=c5 at*;have ab:Blk c5 176 w.1.size (ndc (nv p) (ndI id us)):=c0;have ce:c5.cell? ⟨w.1.size,0,none⟩=some (.int .i64 id):=ab.cell 0;have cn:=ab.free 0;have X:Hid _:=ab;clear c0 ab ch Y cv;go_upto_region 2 with fail
 have a5:=ax c5 w.1.size 0 (.int .i64 0);have cX:=Blk.set X.out 0 (.int .i64 0);have a3:=ca.keep (aw a5 X.out uv) (aw a5 X.out uv);have bX:=a6.trans (a5.below t1 a6.size);clear X ca a6 a5 ce cn a7 ag c4;generalize c5.setCell ⟨w.1.size,0,none⟩ (.int .i64 0)=cc at*;have aX:Blk cc 176 w.1.size (ndc (nv p) (ndI 0 us)):=cX;have c2:RNd cc (nv p) (ndI 0 us):=⟨a3.keys,a3.vals,a3.kids,a3.signs⟩;have c9:cc.cell? ⟨w.1.size,1,none⟩=some (.bool false):=aX.cell 1;have stV:=ba.out.below bX;have ds:=(cE ba.out.nodes b (by simp[rb])).2;have b0:Hid _:=bX;generalize bd:ndI 0 us=t at*;have a9:Hid _:=bd;generalize cV:nv p=vL at*;clear cX a3 bX bd;have b8:Hid (∀(u:World)(k:Nat)(v:NdV)(c6:NdK),Blk u 176 k (ndc v c6)->(Instr.loadAt 176 (.pointer (some ⟨k,0,none⟩))).run prog u= .ok (.agg (ndc v c6).toArray) u):=fun u k v c6 dp=>jI u k v c6 dp;go_upto_region 7 with fail
 clear c9;have ae:=bDr cc;have a0:=aX.below ae;have W:=c2.below ae;have I:=stV.below ae;have b2:Hid _:=ae;refine az (fun u=>u.cell? ⟨g,0,none⟩=some (.slice (some ⟨b,0,none⟩) ns.length nc)/\(Instr.loadAt 176 (.pointer (some ⟨w.1.size,0,none⟩))).run prog u= .ok (.agg (ndc vL t).toArray) u) (fun k=>decide (7<=k)) uA ?_;clear ae aX c2;generalize cc.drew=bW at*;have cs:bW.cell? ⟨g,0,none⟩=some (.slice (some ⟨b,0,none⟩) ns.length nc)/\(Instr.loadAt 176 (.pointer (some ⟨w.1.size,0,none⟩))).run prog bW= .ok (.agg (ndc vL t).toArray) bW:=⟨I.blk.cell 0,b8.out _ _ _ _ a0⟩;refine aj 0 cs ?_;refine aj 1 cs ?_;refine aj 2 cs ?_;refine aj 3 cs ?_;refine aj 4 cs ?_;refine aM 5 (.agg (ndc vL t).toArray) cs ?hy5 ?_
 case hy5=>exact fun u cz=>bo (p:= .pointer (some ⟨w.1.size,0,none⟩)) rfl rfl cz.2
 refine aj 6 cs ?_;refine ah 7 fun c8 ag=> ?_;refine iY I W aB rfl rfl rfl ?_;intro ac a4 S;refine aU ag ?_;clear ag c8 cs;have a1:=a0.only S t7;have a2:=W.keep (cx S (lj I.nodes) uv) (cx S (lj I.nodes) uv);have bb:UFr g (some ⟨b,0,none⟩) w ac:=((OnlyS.ofBelow b0.out).trans (OnlyS.ofBelow b2.out)).trans ((OnlyS.ofB S).mono (fun k _ dk=>u4 (by rw[dk])));have cg:ac.cell? ⟨w.1.size,5,none⟩=some (.slice vL.sa t.signs.length vL.sc):=a1.cell 5;have O:Hid (t.signs=us.tail.map (·.1)/\t.kids=us.map (·.2)):=by show _/\_;rw[<-a9.out];exact⟨rfl,rfl⟩
 have cS:t.signs.length<=100:=by rw[O.out.1];simp;omega
 have bT:=rh _ _ _ _ k ac a2.signs rfl t7;rw[O.out.1,<-bB]at bT;rw[O.out.1]at cg cS;have K:=t6 a4 (u2 a1 (u2 a2 bb));clear I a4 S a0 W stV a1 a2 bb bB;generalize (us.tail.map (·.1)).length=sl at*;go_wp2_with fail;refine bT.mono ?_;rintro e dX ⟨rfl,bF⟩;obtain rfl:=bF.symm;clear bF bT cg;obtain⟨C,c,r,B,D,E,s,m,i,F,H,N,T,J⟩:=b6.out;have a:(ns.set p t).length=ns.length:=A1;have l:∀j,j∈G->(ns.set p t)[j]?=ns[j]?:=fun j f=>A4 (fun e=>m (by rw[e];exact f));have cb:=b4.out ac (ns.set p t) _ _ nc bS a8 K.out.1 (ad.out.1.keep (fun j f=>l j (i j f))) ad.out.2.1 (by rw[a];omega) ad.out.2.2;have c3:R1 3 ac vL.da us.length vL.dc (on (us.map (·.2))):=by have:=K.out.2.2.1.kids;rw[O.out.2,x7]at this;exact this
 have cf:ac.cell? ⟨w.1.size,4,none⟩=some (.slice vL.da us.length vL.dc):=by have A:=K.out.2.1.cell 4;rw[show(ndc vL t)[4]?=some (.slice vL.da t.kids.length vL.dc)from rfl,O.out.2,x7]at A;exact A
 obtain⟨dU,dV,ck,cj⟩:=c3.get V;rw[cF _ _ (by simpa using V),am]at cj;rw[ck]at cf;have c7:=t6 l a;clear c3 ck C c B D E s m i F H N T J l am cV a r;go_wp2_with fail;refine cb.mono ?_;rintro e d1 ⟨rfl,ms,dr,db,Z,cD,cA,bn,bk⟩;clear cb cf cj;obtain⟨C,c,r,B,D,E,s,m,i,F,H,N,T,J⟩:=b6.out;obtain⟨l,a⟩:=c7.out;obtain⟨dI,bP,dF,bR,cp,bC⟩:=db;obtain⟨bZ,af,Q⟩:=xX (o:=none) (y:=0) (R:=[]) (C.keep l) c r B (D.keep (fun j f=>l j (by rw[B];simp[f]))) (E.keep (fun j f=>l j (by rw[B];simp[f]))) Z bn (gE.2 ⟨rfl,rfl⟩) (by rw[wi];exact bk);have cl:L.take q++((L.getD q t0).1,d)::((none:Option Kd).toList++L.drop (q+1))=L.set q ((L.getD q t0).1,d):=by
  rw[List.set_eq_take_append_cons_drop,BC r]
  rfl
 have cm:us.take q++((L.getD q t0).1,a8)::(ouP none 0++us.drop (q+1))=us:=xY V _ _ (by
  have A:=(C.at r);obtain⟨_,_,_,v',_,_,bu,_,_,_⟩:=A;have dq:v'=a8:=by
   have cr:=eF (·.2) us q ((strOfNums [],0):Pl);rw[bu]at cr;exact(cr.symm.trans b3.out)
  rw[bu,dq])
 rw[cl,cm]at af;have bf:ms[p]?=some (ndI 0 us):=by
  rw[Z p (by rw[a];exact aB) (fun A=>m (i p A)),List.getElem?_set_self aB,a9.out]
 rw[a]at cD cA Q;have aA:p∉bZ:=fun dc=>by
  rcases Q.2 p dc with A|A
  ·exact m A
  ·omega
 have ak:(L.set q ((L.getD q t0).1,d)).getD q t0=((L.getD q t0).1,d):=by simp[List.getD_eq_getElem?_getD,r]
 have b9:=Gu (p:=q) (n:=n) bR bf af (y1.2 ⟨aA,Q.1⟩) (by rw[A1];exact r) (fun j f cM=>by
  rw[A1]at f;have:(L.set q ((L.getD q t0).1,d)).getD j t0=L.getD j t0:=by simp[List.getD_eq_getElem?_getD,List.getElem?_set_ne (Ne.symm cM)]
  rw[this];exact N _ (bO f)) (by rw[ak];exact F) (by rw[ak];exact H) (by rw[A1];exact b5.out) (by rw[ro];exact T) t7
 have bc:=K.out.2.2.2.step cp (u5 rfl);have an:bP=some ⟨b,0,none⟩\/∃k,bP=some ⟨k,0,none⟩/\w.1.size<=k:=by
  rcases bC with A|⟨k1,A,hk1⟩
  ·exact u5 A
  ·exact u4 ⟨k1,A,u9 K.out.2.2.2.size hk1⟩
 have h:=t6 bc (u2 an (u2 Q (u2 Z (u2 i (u2 l a)))));clear C c B D E s m i F H N T J l Z bn bk bR cp bC af Q cl cm bf aA ak bc an a;go_wp2_with fail;refine b9.mono ?_;rintro e d2 ⟨rfl,c1,P',bs,aS,dl,dd,br,bl⟩;have M:=t6 bs (u2 aS (u2 br bl));clear b9 bs aS br bl;go_wp2_with fail
 go_end0
 rw[b1.out];refine⟨rfl,c1,P',UQ.after M.out.1 h.out.1 h.out.2.1,fun j f cL=> ?_,t7,t7,M.out.2.2.1,M.out.2.2.2.1,fun j f=> ?_⟩
 ·have bz:j∉G:=fun A=>cL (by simp[A]);have bA:p≠j:=fun e=>cL (by simp[e]);have cB:j∉p::bZ:=fun A=>by
   rcases wA.1 A with A|A
   ·exact bA A.symm
   ·rcases h.out.2.2.1.2 j A with z|z
    ·exact bz z
    ·omega
  rw[M.out.2.1 j t7 cB,h.out.2.2.2.1 j (by rw[h.out.2.2.2.2.2.2];exact f) (fun A=>bz (h.out.2.2.2.2.1 j A)),A4 bA]
 ·rcases M.out.2.2.2.2 j f with z|z
  ·rcases wA.1 z with z|z
   ·exact u5 (by simp[z])
   ·rcases h.out.2.2.1.2 j z with h4|h4
    ·exact u5 (by simp[h4])
    ·exact u4 h4
  ·exact u4 t7
theorem Gy{k}:∀(n:Nat)(t:Tr),wf n t->pf B0 g rest rt k n t:=by
 intro n;induction n with
 |zero=>
  intro t a;rcases aO a with⟨id,es,_,rfl⟩|⟨id,L,m,e,_⟩
  ·exact Gw k id es (by have:=im es;have:=(dA.1 a).2.2;omega)
  ·omega
 |succ n ih=>
  intro t a;rcases aO a with⟨id,es,e,_⟩|⟨id,L,m,e,rfl⟩
  ·omega
  ·exact Gx k n id L a (fun x hx=>ih _ ((bq.1 a).2.1 x hx))
end
