import Derived.Test.YtglbanolhhjjiaaGreatDoorFo44
namespace Go.Proofs.YtglbanolhhjjiaaGreatDoor
open Go.Proofs.Tryz
open Go.RowKit
set_option linter.unusedVariables false
set_option maxRecDepth 100000
set_option maxHeartbeats 32000000
structure WhF(K:DK)(gen root used fr:Int)(fs own:List Int):Prop where
 ok:aR K=true
 sup:bG gen root used fr=true
 np:used<=((nPg K:Nat):Int)
 tp:tpB K root=true
 t:∀x∈tpL K root,2<=x/\x<used
 f:∀x∈fs,2<=x/\x<used
 o:∀x∈own,2<=x/\x<used
theorem Hw{K f c a fr g own}(h:whS K f c a fr=true)(i:flT K fr=some (g,own)):WhF K f c a fr g own:=by
 unfold whS at h;simp only[wX,D3]at h;have b:=h.2;unfold iG at b;rw[i]at b;simp only[wX]at b;have j:=mW h.1.1.2;have d:=Hr b.2;have e:((a.toNat:Nat):Int)=a:=uA;rw[e]at d;exact⟨h.1.1.1,h.1.1.2,h.1.2,b.1,d.1,d.2.1,d.2.2⟩
theorem Hx(a n c u):prog.built 208 [(0,.slice a n c),(1,.int .i64 u)]=some #[.slice a n c,.int .i64 u]:=vk
theorem jL{P:Program}{c:Func}{p q r:Tmp}{b:TypeId}(h:c.results=#[.tmp q,.cell p b,.tmp r])(a:Array Value)(w:World)(g:Nat)(t:TypeId)(cs:Array Value)(d:TypeDesc){u v:Value}
 (m:a.getD p undef= .pointer (some ⟨g,0,none⟩))(k:w.heap[g]?=some (.cells cs t (0,0)))(s:P.underlying b=some d)(j:(match d with| .struct _| .array _ _=>true|_=>false)=true)(l:(P.info? b).map (·.size)=some cs.size)(n:a.getD q undef=u)(o:a.getD r undef=v):
 (results c a).run P w= .ok (.tuple #[u,.agg cs,v]) w:=by
 have e:a[p]?.getD undef= .pointer (some ⟨g,0,none⟩):=by simpa using m
 have f:a[q]?.getD undef=u:=by simpa using n
 have i:a[r]?.getD undef=v:=by simpa using o
 simp[results,h,e,f,i,asAddr,run_loadVar_row w g t b cs (0,0) d k s j l]
structure LsS(B0 g:Nat)(rest:List Value)(rt:Int)(nv:Nat->NdV)(na:Option Addr)(nc ab:Nat)(w1:World)(a:Tk)(ms:List NdK)(qs:List Int)(oa:Option Addr)(oc:Nat)(fa:Option Addr)(fc:Nat)(ids:List Int)(ia:Option Addr)(ic:Nat)(ls:List Int)(la:Option Addr)(lc:Nat)(u:World):Prop where
 s:WrS B0 g rest rt nv na nc ab w1 a ms qs oa oc fa fc u
 oi:Own1 3 w1.1.size u ia ids.length ic (on ids)
 ol:Own1 3 w1.1.size u la ls.length lc (on ls)
 p1:∀k,(Value.slice ia ids.length ic).ownBlock=some k->(Value.slice la ls.length lc).ownBlock≠some k
 p2:∀k,(Value.slice oa qs.length oc).ownBlock=some k->(Value.slice la ls.length lc).ownBlock≠some k
structure LsB(F U:Nat)(a:Tk)(ids ls:List Int):Prop where
 len:ids.length<=F
 mem:∀x∈ids,0<=x/\x< ((U+1:Nat):Int)
 fr:∀x∈a.1,2<=x/\x<a.2
 u0:2<=a.2
 u1:a.2<=(U:Int)+ls.length
 ln:59*ls.length<=F+59
 ls:∀x∈ls,0<=x/\x< (U:Int)+ls.length
 fl:a.1.length<=65536
 uL:(U:Int)<=a.2
theorem LsB.next{j U a d b ls e id}(h:LsB j U a d ls)(f:(tk1 a).1=id)(p:59*ls.length<d.length)(m:b.length<=d.length)(i:∀x∈b,x∈d)(g:e=ls++[id]):LsB j U (tk1 a).2 b e:=by
 have k:=rV a 0 h.fr h.u0;have q:=lu a;have l:=h.u1;have n:=h.len;have o:=h.fl;have c:e.length=ls.length+1:=by rw[g,wb];rfl
 refine⟨uA,fun x hx=>h.mem x (i x hx),k.2.1,by have:=h.u0;omega,by rw[c];omega,by rw[c];omega,fun x hx=> ?_,uA,by have:=h.uL;omega⟩;rw[g]at hx;rcases w6.1 hx with hx|hx
 ·have:=h.ls x hx;rw[c];omega
 ·simp at hx;subst hx;rw[<-f,c];omega
theorem LsS.below{B0 g rest rt nv na nc ab w1 a ms n l m d e b f i ls j k u o}(h:LsS B0 g rest rt nv na nc ab w1 a ms n l m d e b f i ls j k u)(c:Below u.1.size u o):LsS B0 g rest rt nv na nc ab w1 a ms n l m d e b f i ls j k o:=⟨h.s.below c,h.oi.below c,h.ol.below c,h.p1,h.p2⟩
structure WrE(B0 g:Nat)(rest:List Value)(rt:Int)(nv:Nat->NdV)(na:Option Addr)(nc ab:Nat)(w1:World)(db sb rb:Nat)(sc:List Value)(a:Tk)(ms:List NdK)(qs:List Int)(oa:Option Addr)(oc:Nat)(fa:Option Addr)(fc:Nat)(ids:List Int)(ia:Option Addr)(ic:Nat)(ls:List Int)(la:Option Addr)(lc:Nat)(u:World):Prop where
 fr:Below B0 w1 u
 st:USt B0 g rest rt u ms nv na nc
 ab:Blk u 208 ab [.slice fa a.1.length fc,.int .i64 a.2]
 sb:Blk u 36 sb sc
 rb:Blk u 36 rb (al 0 0 0 0)
 ord:R1 3 u oa qs.length oc (on qs)
 oi:R1 3 u ia ids.length ic (on ids)
 ol:R1 3 u la ls.length lc (on ls)
section
variable {B0 g:Nat} {rest:List Value} {rt:Int} {nv:Nat->NdV} {na:Option Addr} {nc ab:Nat} {w1:World} {db sb rb:Nat} {sc:List Value} {a:Tk} {ms:List NdK} {qs:List Int} {oa:Option Addr} {oc:Nat} {fa:Option Addr} {fc:Nat} {ids:List Int} {ia:Option Addr} {ic:Nat} {ls:List Int} {la:Option Addr} {lc:Nat} {u u':World}
theorem LsS.toE(h:LsS B0 g rest rt nv na nc ab w1 a ms qs oa oc fa fc ids ia ic ls la lc u)(d:∀t,t≠208->t≠176->KeepT t w1 u)(b:Blk u 36 sb sc)(c:Blk u 36 rb (al 0 0 0 0)):WrE B0 g rest rt nv na nc ab w1 db sb rb sc a ms qs oa oc fa fc ids ia ic ls la lc u:=
 ⟨h.s.fr,h.s.st,h.s.tk.blk,b,c,h.s.ord.r1 (fw _),h.oi.r1 (fw _),h.ol.r1 (fw _)⟩
theorem WrE.keep(h:WrE B0 g rest rt nv na nc ab w1 db sb rb sc a ms qs oa oc fa fc ids ia ic ls la lc u)(c:Below B0 u u')(b:∀t,157≠t->KeepT t u u'):WrE B0 g rest rt nv na nc ab w1 db sb rb sc a ms qs oa oc fa fc ids ia ic ls la lc u':=
 ⟨h.fr.trans c,⟨h.st.blk.keepT (b _ uB),cw h.st.nodes (b _ uB),fun i d=>(h.st.each i d).keep (b _ uB) (b _ uB),wg h.st.gB c.size⟩,h.ab.keepT (b _ uB),h.sb.keepT (b _ uB),h.rb.keepT (b _ uB),h.ord.keep (b _ uB),h.oi.keep (b _ uB),h.ol.keep (b _ uB)⟩
theorem WrE.below(h:WrE B0 g rest rt nv na nc ab w1 db sb rb sc a ms qs oa oc fa fc ids ia ic ls la lc u)(b:Below u.1.size u u'):WrE B0 g rest rt nv na nc ab w1 db sb rb sc a ms qs oa oc fa fc ids ia ic ls la lc u':=h.keep (b.mono h.st.gB) (fun t _=>aV b)
theorem WrE.setS(h:WrE B0 g rest rt nv na nc ab w1 db sb rb sc a ms qs oa oc fa fc ids ia ic ls la lc u){k}(f:w1.1.size<=k)(c:∃cs,Blk u 36 k cs)(l:sb<w1.1.size/\rb<w1.1.size/\B0<=w1.1.size)(j v):WrE B0 g rest rt nv na nc ab w1 db sb rb sc a ms qs oa oc fa fc ids ia ic ls la lc (u.setCell ⟨k,j,none⟩ v):=by
 obtain⟨cs,c⟩:=c;have o:=ax u k j v;have b:∀t,36≠t->KeepT t u (u.setCell ⟨k,j,none⟩ v):=fun t e=>aw o c e;exact⟨h.fr.trans (o.below uA h.st.gB),⟨h.st.blk.keepT (b _ uB),cw h.st.nodes (b _ uB),fun i d=>(h.st.each i d).keep (b _ uB) (b _ uB),wg h.st.gB o.size⟩,h.ab.keepT (b _ uB),h.sb.only o uA,h.rb.only o uA,h.ord.keep (b _ uB),h.oi.keep (b _ uB),h.ol.keep (b _ uB)⟩
end
theorem sy{u k a b n c m e}(d:Blk u 35 k [.slice a n c,.slice b m e]):(Instr.loadAt 35 (.pointer (some ⟨k,0,none⟩))).run prog u= .ok (.agg #[.slice a n c,.slice b m e]) u:=by
 simp only[Instr.loadAt,Instr.sureAddr,CT,C2,Result.andThen];exact DX u k 35 35 #[.slice a n c,.slice b m e] (0,0) _ d underlying35 rfl gD
theorem pr:prog.built 36 []=some #[.int .i64 0,.int .i64 0,.int .i64 0,.int .i64 0]:=vk
theorem Hy(x y):prog.built 36 [(0,.int .i64 x),(2,.int .i64 y)]=some #[.int .i64 x,.int .i64 0,.int .i64 y,.int .i64 0]:=vk
theorem sE:prog.built 157 [(0,.int .i64 2)]=some #[.int .i64 2,.int .i64 0,.slice none 0 0]:=vk
theorem fe(a b c d):∀v∈al a b c d,v.oneCell'=true:=by simp[al,Value.oneCell']
theorem aN{u k a b c d}(e:Blk u 36 k (al a b c d)):(Instr.loadAt 36 (.pointer (some ⟨k,0,none⟩))).run prog u= .ok (.agg (al a b c d).toArray) u:=by
 simp only[Instr.loadAt,Instr.sureAddr,CT,C2,Result.andThen];exact DX u k 36 36 (al a b c d).toArray (0,0) _ e underlying36 rfl bj
theorem Hz{w b}(h:Blk w 157 b [.int .i64 2,.int .i64 0,.slice none 0 0]):ROp w (some ⟨b,0,none⟩) 1 [opS]:=
 ⟨fun _=>(none,0),ORow.reads (B:=0) (lL (f:=opF [opS] fun _=>(none,0)) (n:=1) h (jb _ _ _) (wa _) uA) (jb _ _ _),fun i c=>by
  have a:i=0:=by simp at c;omega
  subst a;exact⟨jO _ _,eX⟩⟩
theorem pt(w b):ROp w (some ⟨b,0,none⟩) 0 []:=⟨fun _=>(none,0),⟨jb _ _ _,t6,wa _,fun e=>(by cases e),fun h=>by simp at h⟩,fun i a=>by simp at a⟩
variable {B0 g:Nat} {rest:List Value} {rt:Int} {w:World} {ns:List NdK} {nv:Nat->NdV} {na:Option Addr} {nc:Nat}
theorem Ia(oM:USt B0 g rest rt w ns nv na nc){o}(oc:UO ns rt o)(kV:ns.length<=600000)(d K)(sj:RDisk w d K)(i y l fr ib own)(dq:WhF K i y l fr ib own)(fB:flT K fr=some (ib,own))(i1:∀x∈pgZ o,x=0\/x∈tpL K y)(R)(p9:R=wrR (nPg K) i l o (tpL K y) ib own):
 Calls prog 99 #[.pointer (some ⟨g,0,none⟩),av d K,.agg (al i y l fr).toArray] w fun e w'=> ∃a c,e= .returned (.tuple #[.slice a R.1.length c,.agg (al R.2.1.1 R.2.1.2.1 R.2.1.2.2.1 R.2.1.2.2.2).toArray,.int .i64 R.2.2])/\Below B0 w w'/\OOp B0 w' a c R.1:=by
 obtain⟨cM,dE⟩:=aa (w.alloc (.cells #[.slice d.sa K.n d.sc,.slice d.pa K.m d.pc] 35));obtain⟨cP,dF⟩:=aa (cM.alloc (.cells (al i y l fr).toArray 36));obtain⟨f9,dI⟩:=aa (cP.alloc (.cells (al 0 0 0 0).toArray 36));obtain⟨Z,dP⟩:=aa (f9.alloc (.cells #[] 157));have oD:Below w.1.size w cM:=by rw[dE];exact bAl _ _
 have oF:Below cM.1.size cM cP:=by rw[dF];exact bAl _ _
 have oG:Below cP.1.size cP f9:=by rw[dI];exact bAl _ _
 have oI:Below f9.1.size f9 Z:=by rw[dP];exact bAl _ _
 have oO:cM.1.size=w.1.size+1:=by rw[dE];simp
 have oR:cP.1.size=w.1.size+1+1:=by rw[dF];simp[oO]
 have oS:f9.1.size=w.1.size+1+1+1:=by rw[dI];simp[oR]
 have hX:Below cP.1.size cP Z:=oG.trans (oI.mono oG.size);have hW:Below cM.1.size cM Z:=oF.trans (hX.mono oF.size);have d5:Below w.1.size w Z:=oD.trans (hW.mono oD.size);have i2:Blk Z 35 w.1.size [.slice d.sa K.n d.sc,.slice d.pa K.m d.pc]:=(by rw[dE];exact aq w _ _:Blk cM 35 w.1.size [.slice d.sa K.n d.sc,.slice d.pa K.m d.pc]).below hW;have i3:Blk Z 36 (w.1.size+1) (al i y l fr):=(by rw[dF,<-oO];exact aq cM _ _:Blk cP 36 (w.1.size+1) (al i y l fr)).below hX;have ol:Blk Z 36 (w.1.size+1+1) (al 0 0 0 0):=(by rw[dI,<-oR];exact aq cP _ _:Blk f9 36 (w.1.size+1+1) (al 0 0 0 0)).below oI;have oC:OOp w.1.size Z (some ⟨w.1.size+1+1+1,0,none⟩) 0 []:=by rw[dP,<-oS];exact mS _ _ uA
 have sA:Z.1.size=w.1.size+1+1+1+1:=by rw[dP];simp[oS]
 have rL:(prog.info? 35).map (·.size)=some (#[Value.slice d.sa K.n d.sc,Value.slice d.pa K.m d.pc]:Array Value).size:=gD;have np:Hid (∀u,Below Z.1.size Z u->RDisk u d K):=fun u Q=>sj.below (d5.trans (Q.mono d5.size));have m3:=oM.below d5;have bT:Hid (B0<=w.1.size):=oM.gB;have gB:Hid (K.n<=4096):=(gK dq.ok).1.2.1;have e5:Hid (1<=i/\i<=1000000000000/\2<=l/\l<=1024):=(mW dq.sup).1;have o4:Hid ((tpL K y).length<=1048576):=by
  show(tpL K y).length<=1048576;unfold tpL;split
  ·simp
  ·have:=oe (pgO ‹Option Tr›) (nPg K);have:nPg K<=1048576:=by have:=(gK dq.ok).1.2.1;unfold nPg;omega
   omega
 unfold av;go_enter func99,ntmps99;go_upto_region 2 with fail
 change Code.wp _ _ _ _ ((((w.alloc (.cells #[.slice d.sa K.n d.sc,.slice d.pa K.m d.pc] 35)).alloc (.cells (al i y l fr).toArray 36)).alloc (.cells (al 0 0 0 0).toArray 36)).alloc (.cells #[] 157));rw[<-dE,<-dF,<-dI,<-dP];obtain⟨nb,kT⟩:=aa (w.1.size+1+1+1);obtain⟨rb,k3⟩:=aa (w.1.size+1+1);obtain⟨sb,k5⟩:=aa (w.1.size+1);obtain⟨bB,kJ⟩:=aa w.1.size;rw[<-kT]at oC ⊢;rw[<-k3]at ol ⊢;rw[<-k5]at i3 ⊢;rw[<-kJ]at i2 ⊢;have ht:w.1.size<=bB/\bB<sb/\sb<rb/\rb<nb/\nb<Z.1.size:=uA;have f4:=uv d5 ht;have bl:=uv i2 (vJ i3 (vJ ol (vJ oC m3)));have pl:Z.cell? ⟨sb,1,none⟩=some (.int .i64 y):=i3.cell 1;have nx:=wY d K y Z (np.out _ t7);clear dE dF dI dP oD oF oG oI oO oR oS sA hX hW d5 kT k3 k5 kJ oC ol i3 m3 oM ht;unfold av at nx;go_wp2_with (refine B5 rfl 35 _ rfl bB rfl 35 #[.slice d.sa K.n d.sc,.slice d.pa K.m d.pc] (0,0) _ i2 underlying35 rfl rL ?_);refine nx.mono ?_;rintro e rQ ⟨kb,km,rfl,g9,rz⟩;have lb:=bl.out.1.below g9;have le:=bl.out.2.1.below g9;have m8:=yj d K i y l fr rQ (np.out rQ g9);unfold av at m8;have bA:=uv g9 rz;clear g9 rz nx pl i2;go_wp2_with (first|(refine B5 rfl 35 _ rfl bB rfl 35 #[.slice d.sa K.n d.sc,.slice d.pa K.m d.pc] (0,0) _ lb underlying35 rfl rL ?_)|(refine B5 rfl 36 _ rfl sb rfl 36 (al i y l fr).toArray (0,0) _ le underlying36 rfl bj ?_));refine m8.mono ?_;rintro e bf ⟨b9,an,b5,rB,cV,cW,rS,wc,rfl,md,mp,hv,hD,dX⟩;clear m8 lb le;have qs:an=ib/\b5=own/\rB=true:=by
  rcases dX with⟨es,hi⟩|⟨es,_⟩
  ·rw[fB]at es;cases es;exact⟨rfl,rfl,hi⟩
  ·rw[fB]at es;cases es
 obtain⟨rfl,rfl,rfl⟩:=qs;have dk:Below Z.1.size Z bf:=bA.out.1.trans (b9.mono bA.out.1.size);have lf:=bl.out.2.1.below dk;have po:bf.cell? ⟨sb,2,none⟩=some (.int .i64 l):=lf.cell 2;have qf:=Hx cV an.length cW l;obtain⟨ef,dS⟩:=aa (bf.alloc (.cells #[.slice cV an.length cW,.int .i64 l] 208));obtain⟨z,cq⟩:=aa (ef.alloc (.cells #[] 157));have oK:Below bf.1.size bf ef:=by rw[dS];exact bAl _ _
 have gm:Below ef.1.size ef z:=by rw[cq];exact bAl _ _
 have d7:Below bf.1.size bf z:=oK.trans (gm.mono oK.size);have fd:Below Z.1.size Z z:=dk.trans (d7.mono dk.size);have i6:ef.1.size=bf.1.size+1:=by rw[dS];simp
 obtain⟨ob,dW⟩:=aa (bf.1.size+1);obtain⟨ab,hr⟩:=aa bf.1.size;have m4:TkSt z z ab (an,l) cV cW:=⟨(by rw[hr];exact(by rw[dS];exact aq bf _ _:Blk ef 208 bf.1.size [.slice cV an.length cW,.int .i64 l]).below gm),(md.r1 (fw _)).below d7⟩;have hT:OOp ob z (some ⟨ob,0,none⟩) 0 []:=by rw[dW,cq,<-i6];exact mS _ _ t6
 have rd:Blk z 157 ob []:=by rw[dW,cq,<-i6];exact aq ef _ _
 have r1:z.1.size=ob+1:=by rw[dW,cq];simp[i6]
 have oj:w.1.size<=ab:=by have:=f4.out.1.size;have:=dk.size;omega
 have h1:=bl.out.2.2.2.2.below fd;have m1:R1 3 z kb (tpL K y).length km (on (tpL K y)):=((bA.out.2.r1 (fw _)).below b9).below d7;have m2:R1 3 z rS b5.length wc (on b5):=(mp.r1 (fw _)).below d7;have qP:=bT.out;have ju:Hid (sb<z.1.size/\rb<z.1.size/\B0<=z.1.size):=by show _/\_;have:=f4.out.2;have:=fd.size;omega
 have m9:Hid (ab<ob):=by show ab<ob;omega
 have g1:=Hu h1 oc kV (an,l) m4 uA (by show 0<=l;have:=e5.out;omega) (by show l<=1024;have:=e5.out;omega) (by show an.length<=65536;omega);have ha:z.cell? ⟨g,1,none⟩=some (.int .i64 rt):=h1.blk.cell 1;have a7:=uv fd (vJ hT (vJ m1 (vJ m2 (vJ oj r1))));have bm:Hid _:=Ht (N:=600000) oc (fun x hx=>by rcases i1 x hx with h|h;exact v7 h;exact v6 (dq.t x h)) dq.f (by have:=e5.out;omega) kV;have db:=uv hv (vJ hD (vJ dq.t dq.o));have hp:Hid _:=p9;rw[wrR]at hp;generalize tpL K y=mm at*;clear b9 md mp hv hD dX dk lf oK gm d7 fd m4 hT rd r1 h1 m1 m2 dq i1 oc fB p9 qP;go_upto_region 6 with fail
 change Code.wp _ _ _ _ ((bf.alloc (.cells #[.slice cV an.length cW,.int .i64 l] 208)).alloc (.cells #[] 157));rw[<-dS,<-cq,<-dW,<-hr];clear dS cq i6 dW hr po qf;go_wp2_with fail;refine g1.mono ?_;rintro e u ⟨ms,W,bE,bF,ch,ck,P,rfl,qa,q3,kE,p7⟩;clear g1 ha;generalize plO o (an,l)=r at*;obtain⟨c8,o8,E⟩:=r;have sm:ms.length<=600000:=uA;clear q3;have fz:WrS B0 g rest rt nv na nc ab z o8 ms W bE bF ch ck u:=qa;have eC:UO ms rt c8:=kE;have kD:OrdR ms P W E:=p7;clear qa kE p7;obtain⟨M,nB⟩:=o8;have s2:l<=nB:=bm.out.lo;have s1:nB<=l+600000:=by have:=bm.out.hi;simpa using this
 have s7:=e5.out;obtain⟨U,rfl⟩:=x2 (show 0<=nB by omega);have ty:U<=601024:=uA;have pg:u.cell? ⟨ab,1,none⟩=some (.int .i64 (U:Nat)):=fz.tk.blk.cell 1;have r3:(Instr.makeSlice 111 (.int .i64 ((U:Int)+1)) (.int .i64 ((U:Int)+1))).run prog u= .ok (.slice (some ⟨u.1.size,0,none⟩) (U+1) (U+1)) (u.alloc (.cells (madeCells #[.bool false] (U+1)) 4)):=jG (U+1) uA u;have mN:=bAl u (.cells (madeCells #[.bool false] (U+1)) 4);have hQ:=jH 0 (U+1) uA u (wa _);have c0:=fz.below mN;have o7:=Hv c0.st eC uA (N:=U+1) uA hQ (fun x hx=>by have:=bm.out.pgs x hx;show 0<x/\x< ((U+1:Nat):Int);have hi:2<=x/\x< (U:Int):=this;omega);have ha:(u.alloc (.cells (madeCells #[.bool false] (U+1)) 4)).cell? ⟨g,1,none⟩=some (.int .i64 rt):=c0.st.blk.cell 1;have od:z.1.size<=u.1.size:=fz.fr.size;obtain⟨_,sc,kG⟩:=hQ.blk;have bg:=uv c0 kG;have h4:=uv eC kD;clear fz hQ c0 eC kD kG;go_upto_region 8 with fail
 generalize u.alloc (.cells (madeCells #[.bool false] (U+1)) 4)=sC at*;generalize u.1.size=mb at*;clear r3 pg;go_wp2_with fail;refine o7.mono ?_;rintro e m5 ⟨rfl,lo,lk⟩;clear o7 ha;have n2:=bDr m5;have bb:=((bg.out.1.onlyT lo bg.out.2 od uB uB uB).below n2);have hR:=lk.below n2;clear lo lk;go_wp2_with fail;refine az (fun u=>u.cell? ⟨ab,0,none⟩=some (.slice ch M.length ck)/\u.cell? ⟨ab,1,none⟩=some (.int .i64 (U:Nat))) (fun k=>decide (12<=k)) vk ?_;clear n2;generalize m5.drew=r4 at*;have cs:r4.cell? ⟨ab,0,none⟩=some (.slice ch M.length ck)/\r4.cell? ⟨ab,1,none⟩=some (.int .i64 (U:Nat)):=⟨bb.tk.blk.cell 0,bb.tk.blk.cell 1⟩;have kI:=bb.kT 3 uB uB;have kv:∀x∈M,2<=x/\x< (U:Int):=bm.out.fr;have q1:M.length<=65536:=wg bm.out.fl db.out.1;have j3:=Ha r4 ch kb rS ck km wc 0 mb (U+1) M mm (pgZ c8) b5 uA (bb.tk.row.keep kI) (a7.out.2.2.1.keep kI) (a7.out.2.2.2.1.keep kI) hR (fun x hx=>by have:=kv x hx;omega) (fun x hx=>by have:=db.out.2.2.1 x hx;omega) (fun x hx=>by have:=db.out.2.2.2 x hx;omega) uA o4.out (by have:=db.out.2.1;omega);have gs:Hid _:=bb;clear kI kv bb hR;refine aj 0 cs ?_;refine aj 1 cs ?_;refine aj 2 cs ?_;refine aj 3 cs ?_;refine aj 4 cs ?_;refine aj 5 cs ?_;refine aj 6 cs ?_;refine aj 7 cs ?_;refine aj 8 cs ?_;refine aj 9 cs ?_;refine aj 10 cs ?_;refine aj 11 cs ?_;refine ah 12 fun m f=> ?_;go_wp2_with fail;refine j3.mono ?_;rintro e cD ⟨b2,b3,rfl,cg,hS⟩;clear j3;obtain⟨b8,dr⟩:=aa (mkd (idS M mm (pgZ c8) b5) (U+1));rw[<-dr]at hS ⊢;have sP:b8.length<=U+1:=by rw[dr];exact oe _ _
 have p6:∀x∈b8,0<=x/\x< ((U+1:Nat):Int):=by rw[dr];exact fun x hx=>Hq hx
 have oY:Hid _:=dr;have I:=uv (gs.out.below cg) (hS.mono gs.out.fr.size);clear cg hS dr cs;go_wp2_with fail;refine ao f ?_ (fun h=>absurd h uB);clear f m;refine ah 13 fun m f=> ?_;go_wp2_with fail;refine aU f ?_ (fun h=>absurd h uB);clear f m;obtain⟨g4,c3⟩:=aa (cD.alloc (.cells #[] 3));have hV:Below cD.1.size cD g4:=by rw[c3];exact bAl _ _
 have lt:Own1 3 z.1.size g4 (some ⟨cD.1.size,0,none⟩) 0 0 []:=by rw[c3];exact fU _ _ _ I.out.1.fr.size
 have cb:Hid (LsS B0 g rest rt nv na nc ab z (M,(U:Int)) ms W bE bF ch ck b8 b2 b3 [] (some ⟨cD.1.size,0,none⟩) 0 g4):=⟨I.out.1.below hV,I.out.2.below hV,lt,fun k bC e=>by
  have:=(Ct I.out.2 k bC).2;simp[Value.ownBlock]at e;omega,fun k bC e=>by
  have:=(Ct I.out.1.ord k bC).2;simp[Value.ownBlock]at e;omega⟩
 obtain⟨gr,q6⟩:=aa (lsL b8.length (M,(U:Int)) b8 []);have nq:Hid _:=q6;clear hV lt q6;go_upto_block 0 with fail
 rw[<-c3];clear c3;generalize q0:cD.1.size=tT at*;clear q0;go_cut [19,20] (fun d8 d9 ag=> ∃(cV:Option Addr)(cW:Nat)(b2:Option Addr)(b3:Nat)(hN:Option Addr)(hO:Nat),d8= .slice b2 gr.2.1.length b3/\d9= .slice hN gr.2.2.length hO/\LsS B0 g rest rt nv na nc ab z gr.1 ms W bE bF cV cW gr.2.1 b2 b3 gr.2.2 hN hO ag/\LsB b8.length U gr.1 gr.2.1 gr.2.2)
 case first=>
  go_wp2_with fail;go_loopw [19,20] (fun d8 d9 wr=> ∃(a:Tk)(A ls:List Int)(cV:Option Addr)(cW:Nat)(b2:Option Addr)(b3:Nat)(hN:Option Addr)(hO:Nat),d8= .slice b2 A.length b3/\d9= .slice hN ls.length hO/\gr=lsL (b8.length-ls.length) a A ls/\LsS B0 g rest rt nv na nc ab z a ms W bE bF cV cW A b2 b3 ls hN hO wr/\LsB b8.length U a A ls) (fun _ d9 _=>20000-li d9)
  case atStart=>exact⟨(M,(U:Int)),b8,[],ch,ck,b2,b3,_,0,rfl,rfl,nq.out,cb.out,⟨t6,p6,bm.out.fr,by show 2<=(U:Int);omega,by show(U:Int)<=_;simp,vo,vo,q1,A4 _⟩⟩
  case round=>
   obtain⟨a,A,ls,cj,cl,aB,aS,J,T,rfl,rfl,f0,ds,ae⟩:=hrel;obtain⟨gp,S⟩:=aa wr;subst S;have kP:=ae.len;have q2:=ae.ln;have gA:=uv f0 (vJ ds ae);by_cases n5:59*ls.length<A.length
   ·have hu:59*(ls.length:Int)< (A.length:Int):=uA;have o6:=yz ds.s.tk (ds.s.kT _ uB uB) (by have:=ae.fl;omega) (by have:=ae.u0;omega) (by have:=ae.u1;omega);have cr:=Hp (a:=a) n5 kP;have jT:Hid _:=cr;generalize kN:(tk1 a).1=id at*;have o0:Hid _:=kN;clear cr kN f0 ds ae;go_wp2_with fail;refine o6.mono ?_;rintro e v1 ⟨rfl,ox,dl,dp,rO⟩;clear o6;have bZ:=gA.out.2.1;have ok:∀t,208≠t->KeepT t gp v1:=fun t bd=>aw ox bZ.s.tk.blk bd;have hk:LsS B0 g rest rt nv na nc ab z (tk1 a).2 ms W bE bF dl dp A aB aS ls J T v1:=⟨bZ.s.onlyA ox rO,bZ.oi.keep (ok _ uB),bZ.ol.keep (ok _ uB),bZ.p1,bZ.p2⟩;have cf:Hid _:=hk;obtain⟨V,a5⟩:=aa (if lw a then wol id A else A);rw[<-a5]at jT;have jq:Hid _:=a5;have p4:V.length<=A.length:=by
     rw[a5];split
     ·exact yE _ _
     ·exact t6
    have p5:∀x∈V,x∈A:=by
     rw[a5];split
     ·exact fun x hx=>(List.mem_filter.1 hx).1
     ·exact fun x hx=>hx
    have h7:=G8 v1 aB aS A id (hk.oi.r1 (fw _)) uA;generalize hH:lw a=st at*;clear ox rO bZ ok hk a5;go_upto_if 98 with fail
    go_cut [19] (fun d8 ag=> ∃b2 b3,d8= .slice b2 V.length b3/\LsS B0 g rest rt nv na nc ab z (tk1 a).2 ms W bE bF dl dp V b2 b3 ls J T ag)
    case first=>
     cases st with
     |false=>
      have af:Hid (V=A):=jq.out;clear h7 hH;go_wp2
      go_meet
      exact⟨aB,aS,by rw[af.out],by rw[af.out];exact cf.out⟩
     |true=>
      have af:Hid (V=wol id A):=jq.out;clear hH;go_wp2_with fail;refine h7.mono ?_;rintro e v2 ⟨cv,cz,rfl,nT,oA⟩;clear h7;have cn:LsS B0 g rest rt nv na nc ab z (tk1 a).2 ms W bE bF dl dp (wol id A) cv cz ls J T v2:=⟨cf.out.s.below nT,oA.mono cf.out.s.fr.size,cf.out.ol.below nT,fun k bC e=>by
       have es:=(Ct oA k bC).1;have hi:=(Ct cf.out.ol k e).2;omega,cf.out.p2⟩
      have ac:Hid _:=cn;clear nT oA cn;go_wp2
      go_meet
      exact⟨cv,cz,by rw[af.out],by rw[af.out];exact ac.out⟩
    case rest=>
     obtain⟨cv,cz,rfl,cn⟩:=hcut;obtain⟨v2,S⟩:=aa wc;subst S;have ac:Hid _:=cn;have q7:=cn.s.fr.size;clear cn h7 hH;go_wp2_with (at_builtin;refine DR rfl fun _ f=>je _ _ co rfl z.1.size J ls.length T (on ls) rfl ac.out.ol (.int .i64 id) rfl rfl uA uA q7 (fun ic n1 sx rA r6 hh kc=>f _ _ ?_));have i5:=bAl v2 (.cells #[.int .i64 id] 3);have rJ:=ac.out.s.below i5;have hU:∀k,(Value.slice cv V.length cz).ownBlock=some k->(Value.slice J ls.length T).ownBlock≠some k:=ac.out.p1;have e1:∀{v:Value}{n:Nat}{xs:List Value}{s:Nat},v2.ownsRow z.1.size 3 s v n xs->(∀k,v.ownBlock=some k->(Value.slice J ls.length T).ownBlock≠some k)->∀k,v.ownBlock=some k->(Value.slice (some ⟨ic,0,none⟩) (ls.length+1) n1).ownBlock≠some k:=fun sp i1 k bC e=>by
      have dV:=(Ct sp k bC).2;have sf:ic=k:=by simpa [Value.ownBlock]using e
      rcases kc with cT|cT
      ·refine i1 k bC ?_;have af:J=some ⟨ic,0,none⟩:=cT;rw[af,<-sf];simp[Value.ownBlock]
      ·omega
     obtain⟨hP,c4⟩:=aa (ls++[id]);have bx:hP.length=ls.length+1:=by rw[c4,wb];rfl
     have b0:LsS B0 g rest rt nv na nc ab z (tk1 a).2 ms W bE bF dl dp V cv cz hP (some ⟨ic,0,none⟩) n1 sx:=⟨rJ.grown (ac.out.ol.below i5) hh uB uB ac.out.p2,yN (ac.out.oi.below i5) hh hU,by rw[bx,c4,<-fv];exact rA,by rw[bx];exact e1 ac.out.oi hU,by rw[bx];exact e1 ac.out.s.ord ac.out.p2⟩;have bW:=uv b0 (vJ c4 bx);clear b0 i5 rJ hU e1 rA r6 hh kc c4 bx;go_wp2_with fail;go_roundw
     case rel=>
      refine⟨(tk1 a).2,V,hP,dl,dp,cv,cz,_,n1,rfl,by rw[bW.out.2.2],?_,bW.out.1,gA.out.2.2.next o0.out n5 p4 p5 bW.out.2.1⟩;rw[gA.out.1,jT.out,bW.out.2.1,wb]
      rfl
     case measure=>simp[li];omega
   ·have hu:¬59*(ls.length:Int)< (A.length:Int):=uA;have f5:Hid (gr=(a,A,ls)):=by show gr= _;rw[f0,Ho n5]
    clear f0 ds ae;go_wp2
    go_meet
    exact⟨cj,cl,aB,aS,J,T,by rw[f5.out],by rw[f5.out],by rw[f5.out];exact gA.out.2.1,by rw[f5.out];exact gA.out.2.2⟩
 case rest=>
  obtain⟨cj,cl,aB,aS,J,T,rfl,rfl,ds,ae⟩:=hcut;obtain⟨v3,S⟩:=aa wc;subst S;have g0:Hid (R=wrZ (nPg K) i c8 E gr):=by
   show R= _;rw[hp.out,nq.out,oY.out]
   rfl
  obtain⟨⟨d2,UZ⟩,a6,B⟩:=gr;have kA:LsS B0 g rest rt nv na nc ab z (d2,UZ) ms W bE bF cj cl a6 aB aS B J T v3:=ds;have hl:LsB b8.length U (d2,UZ) a6 B:=ae;have bX:Hid _:=hl;have jk:Hid (∀x,Below B0 z x->Below B0 w x):=fun x hx=>(f4.out.1.mono bT.out).trans ((a7.out.1.mono (wg bT.out f4.out.1.size)).trans hx);have ce:Hid (∀x,(∀t,t≠208->t≠176->KeepT t z x)->Blk x 35 bB [.slice d.sa K.n d.sc,.slice d.pa K.m d.pc]/\Blk x 36 sb (al i y l fr)/\Blk x 36 rb (al 0 0 0 0)):=fun x hx=>⟨(bl.out.1.below a7.out.1).keepT (hx _ uB uB),(bl.out.2.1.below a7.out.1).keepT (hx _ uB uB),(bl.out.2.2.1.below a7.out.1).keepT (hx _ uB uB)⟩;have kn:=bDr v3;have b0:=kA.below kn;clear ds ae kA hl cb I gs bg bA np mN hp nq;go_wp2_with fail;refine az (fun u=>u.cell? ⟨ab,1,none⟩=some (.int .i64 UZ)/\(Instr.loadAt 35 (.pointer (some ⟨bB,0,none⟩))).run prog u= .ok (.agg #[.slice d.sa K.n d.sc,.slice d.pa K.m d.pc]) u) (fun k=>decide (6<=k)) vk ?_;clear kn;generalize v3.drew=g5 at*;have cs:g5.cell? ⟨ab,1,none⟩=some (.int .i64 UZ)/\(Instr.loadAt 35 (.pointer (some ⟨bB,0,none⟩))).run prog g5= .ok (.agg #[.slice d.sa K.n d.sc,.slice d.pa K.m d.pc]) g5:=⟨b0.s.tk.blk.cell 1,sy (ce.out g5 b0.s.kT).1⟩;have g2:=kQ d K g5 gB.out;unfold av at g2;have bW:Hid _:=b0;clear b0;refine aj 0 cs ?_;refine aj 1 cs ?_;refine aj 2 cs ?_;refine aj 3 cs ?_;refine aM 4 (.agg #[.slice d.sa K.n d.sc,.slice d.pa K.m d.pc]) cs ?hyp4 ?_
  case hyp4=>exact fun u dD=>bo (p:= .pointer (some ⟨bB,0,none⟩)) rfl rfl dD.2
  refine ah 5 fun m f=> ?_;go_wp2_with fail;refine g2.mono ?_;rintro e b7 ⟨rfl,pa⟩;clear g2;have H:Hid _:=bW.out.below pa;have kg:b7.cell? ⟨ab,1,none⟩=some (.int .i64 UZ)/\(Instr.loadAt 35 (.pointer (some ⟨bB,0,none⟩))).run prog b7= .ok (.agg #[.slice d.sa K.n d.sc,.slice d.pa K.m d.pc]) b7:=⟨H.out.s.tk.blk.cell 1,sy (ce.out b7 H.out.s.kT).1⟩;clear pa bW cs;go_wp2_with fail;refine f.out _ _ (fun _=>kg) ?_;clear f m kg;refine ah 6 fun m f=> ?_;go_wp2_with fail;refine aU f ?_ (fun h=>absurd h uB);clear f m;have sB:Hid _:=gB.out;generalize kX:nPg K=op at*;by_cases hE:(op:Int)<UZ
  ·have ak:Hid (R=([],(0,0,0,0),3)):=by show R= _;rw[g0.out,wrZ,B4 hE]
   have f2:=(ce.out b7 H.out.s.kT).2.2;have ht:=pr;go_wp2_with (refine DR rfl fun _ f=>bK (k:=rb) (cs:=al 0 0 0 0) f2 rfl (fe 0 0 0 0) bj rfl rfl rfl (fun x k7 fV=>f _ _ ?_));have l3:OOp B0 x (some ⟨nb,0,none⟩) 0 []:=((((bl.out.2.2.2.1.below a7.out.1).keep (H.out.s.kT _ uB uB) (H.out.s.kT _ uB uB)).keep (aw fV f2 uB) (aw fV f2 uB))).mono bT.out;have o2:Hid _:=l3;have f6:=uv k7 (jk.out x (H.out.s.fr.trans (fV.below (by have:=f4.out.2;have:=bT.out;omega) (wg H.out.s.gB H.out.s.fr.size))));clear k7 fV f2 l3;go_wp2_with fail;refine B3 (v:= .tuple #[.slice (some ⟨nb,0,none⟩) 0 0,.agg (al 0 0 0 0).toArray,.int .i64 3]) ?_ rfl ?_
   ·exact jL results99 _ _ rb 36 (al 0 0 0 0).toArray _ rfl f6.out.1 underlying36 rfl bj rfl rfl
   ·rw[ak.out];exact⟨some ⟨nb,0,none⟩,0,rfl,f6.out.2,o2.out⟩
  ·have ak:Hid (R=(((noL E++frO B a6)++[opS])++(suO (i+1,rtZ c8,UZ,B.headD 0)++[opS]),(i+1,rtZ c8,UZ,B.headD 0),0)):=by show R= _;rw[g0.out,wrZ,CH hE]
   have rv:OOp ob b7 (some ⟨ob,0,none⟩) 0 []:=a7.out.2.1.keep (H.out.s.kT _ uB uB) (H.out.s.kT _ uB uB);have jh:Hid (WrE B0 g rest rt nv na nc ab z bB sb rb (al i y l fr) (d2,UZ) ms W bE bF cj cl a6 aB aS B J T b7):=H.out.toE H.out.s.kT (ce.out b7 H.out.s.kT).2.1 (ce.out b7 H.out.s.kT).2.2;have sV:UZ<=(op:Int):=uA;have sT:2<=UZ:=bX.out.u0;have o1:Hid _:=rv;have sn:op<=1024:=by rw[<-kX];unfold nPg;have:=gB.out;omega
   have ft:=h4.out.2.len;have kH:=bm.out.cnt;have sS:E.length<=70000:=by
    have es:(E.length:Int)+M.length+l=an.length+(U:Int):=kH;have hi:=db.out.1;have tx:(U:Int)<=UZ:=bX.out.uL;omega
   have s5:W.length<=70000:=uA;clear rv H ce g0 ft kH hE kX;go_upto_block 2 with fail
   obtain⟨bP,ga⟩:∃bP:World->Prop,bP=fun u=>WrE B0 g rest rt nv na nc ab z bB sb rb (al i y l fr) (d2,UZ) ms W bE bF cj cl a6 aB aS B J T u:=⟨_,rfl⟩;have D:Hid (∀u,bP u->WrE B0 g rest rt nv na nc ab z bB sb rb (al i y l fr) (d2,UZ) ms W bE bF cj cl a6 aB aS B J T u):=fun u Q=>by rw[ga]at Q;exact Q
   have C:Hid (∀u ea,bP u->Below u.1.size u ea->bP ea):=fun u ea Q hs=>by rw[ga]at Q ⊢;exact WrE.below Q hs
   have cc:Hid (∀u ea,bP u->Below B0 u ea->(∀t,157≠t->KeepT t u ea)->bP ea):=fun u ea Q hs bC=>by rw[ga]at Q ⊢;exact WrE.keep Q hs bC
   have bS:Hid (B0<=ob):=by show B0<=ob;have:=bT.out;have:=a7.out.2.2.2.2.1;have:=a7.out.2.2.2.2.2;have:=m9.out;omega
   have jj:Hid (∀u k j(v:Value),bP u->z.1.size<=k->(∃cs,Blk u 36 k cs)->bP (u.setCell ⟨k,j,none⟩ v)):=fun u k j v Q bC hs=>by rw[ga]at Q ⊢;exact WrE.setS Q bC hs ju.out j v
   have f5:Hid (bP b7):=by show bP b7;rw[ga];exact jh.out
   clear ga jh;go_cut [16] (fun hZ ag=> ∃(a:Option Addr)(c:Nat),hZ= .slice a (noL E).length c/\bP ag/\OOp ob ag a c (noL E))
   case first=>
    go_wp2_with fail;go_loopw [16,23] (fun hZ h0 wr=> ∃(j:Nat)(a:Option Addr)(c:Nat)(xs:List OpK),h0= .int .i64 (j:Nat)/\j<=W.length/\hZ= .slice a xs.length c/\xs=noL (E.take j)/\bP wr/\OOp ob wr a c xs) (fun _ h0 _=>W.length-(intOf h0).toNat)
    case atStart=>exact⟨0,some ⟨ob,0,none⟩,0,[],rfl,wa _,rfl,rfl,f5.out,o1.out⟩
    case round=>
     obtain⟨j,rW,r0,xs,rfl,tz,rfl,d1,a3,bv⟩:=hrel;obtain⟨gp,S⟩:=aa wr;subst S;have s8:xs.length<=4*j:=by rw[d1];have:=sw (E.take j);rw[wR]at this;omega
     have gT:=uv d1 (vJ a3 bv);have ft:=h4.out.2.len;by_cases dV:j<W.length
     ·have n6:(j:Int)< (W.length:Int):=uA;have hy:j<E.length:=uA;clear ft;obtain⟨G,hq,_⟩:=h4.out.2.get j hy;have hz:E.getD j .nil∈E:=bO hy;obtain⟨⟨t1,hI⟩,kZ⟩:=bm.out.each _ hz;have cr:Hid (noL (E.take (j+1))=noL (E.take j)++pwO (fI (E.getD j .nil)) (kdT (E.getD j .nil)) (bdT (E.getD j .nil))):=by
       show _= _;have e:E.take (j+1)=E.take j++[E.getD j .nil]:=by rw[A6];simp[List.getD,List.getElem?_eq_getElem hy]
       rw[e];simp[noL]
      generalize E.getD j .nil=b6 at*;obtain⟨q,cL,cT,af,he,pA⟩:=hq.top hI;have ap:=D.out gp a3;obtain⟨gg,gj,sg,ek⟩:=ap.ord.get dV;rw[cF _ _ dV,cT]at ek;obtain⟨b,n3,_⟩:=ap.st.cells af;subst n3;subst sg;have da:Hid (∀u,bP u->u.cell? ⟨g,0,none⟩=some (.slice (some ⟨b,0,none⟩) ms.length nc)/\u.cell? ⟨gg,gj+j,none⟩=some (.int .i64 (q:Nat))/\(Instr.loadAt 176 (.pointer (some ⟨b,q*6,none⟩))).run prog u= .ok (.agg (ndc (nv q) cL).toArray) u):=fun u Q=>by
       have ca:=D.out u Q;obtain⟨tb,ti,hf,hb⟩:=ca.ord.get dV;cases hf;rw[cF _ _ dV,cT]at hb;exact⟨ca.st.blk.cell 0,hb,ca.st.loadNd af⟩
      have s6:q<ms.length:=(wC.1 af).1;have bn:=uv hI (vJ hq (vJ kZ (vJ cT (vJ he pA))));clear hq hI kZ cT af he pA ap ek hz;have hd:=bDr gp;have fo:=C.out gp _ a3 hd;have kB:=bv.below hd;clear d1 a3 bv;go_upto_region 21 with fail
      refine az (fun u=>u.cell? ⟨g,0,none⟩=some (.slice (some ⟨b,0,none⟩) ms.length nc)/\u.cell? ⟨gg,gj+j,none⟩=some (.int .i64 (q:Nat))/\(Instr.loadAt 176 (.pointer (some ⟨b,q*6,none⟩))).run prog u= .ok (.agg (ndc (nv q) cL).toArray) u) (fun k=>decide (11<=k)) vk ?_;clear hd;generalize gp.drew=dc at*;have cs:=da.out dc fo;have hY:=bAl dc (.cells (ndc aF nd0).toArray 176);have lc:=aq dc 176 (ndc aF nd0).toArray;have kj:=da.out _ (C.out _ _ fo hY);have bA:=uv fo (vJ kB hY);clear fo kB;refine au 0 cs ?_;refine au 1 cs ?_;refine au 2 cs ?_;refine au 3 cs ?_;refine au 4 cs ?_;refine au 5 cs ?_;refine au 6 cs ?_;refine au 7 cs ?_;refine au 8 cs ?_;refine aM 9 (.agg (ndc (nv q) cL).toArray) cs ?hyp9 ?_
      case hyp9=>exact fun u dD=>bo (p:= .pointer (some ⟨b,q*6,none⟩)) rfl rfl dD.2.2
      refine ah 10 fun m f=> ?_;go_wp2_with fail;refine f.out _ _ (fun _=>kj) ?_;clear f m;refine ah 11 fun m f=> ?_;refine bK (k:=dc.1.size) (cs:=ndc (nv q) cL) lc rfl (eo _ _) aD rfl rfl rfl (fun f7 a4 aA=> ?_);have ej:Below dc.1.size dc f7:=hY.trans (aA.below t6 hY.size);have bR:=uv (C.out _ _ bA.out.1 ej) (vJ (bA.out.2.1.below ej) a4);have fl:f7.cell? ⟨dc.1.size,1,none⟩=some (.bool (pn b6)):=by rw[<-bn.out.2.2.2.2.2];exact a4.cell 1
      refine aU f ?_ (fun h=>absurd h uB);clear f m a4 aA ej hY lc cs kj bA;generalize dc.1.size=f3 at*;go_upto_if 132 with fail
      go_cut [25] (fun rC ag=>rC= .int .i64 (kdT b6)/\ag=f7)
      case first=>
       cases bc:pn b6 with
       |true=>
        rw[bc]at fl;have gw:Hid (kdT b6=2):=by show kdT b6=2;unfold kdT;rw[bc];rfl
        clear bc;go_wp2
        go_meet
        exact⟨by rw[gw.out],rfl⟩
       |false=>
        rw[bc]at fl;have gw:Hid (kdT b6=3):=by show kdT b6=3;unfold kdT;rw[bc];rfl
        clear bc;go_wp2
        go_meet
        exact⟨by rw[gw.out],rfl⟩
      case rest=>
       obtain⟨rfl,ca⟩:=hcut;obtain rfl:=ca.symm;clear ca fl;have fn:=bDr f7;have fs:=C.out f7 _ bR.out.1 fn;have cp:=bR.out.2.1.below fn;have hM:=bR.out.2.2.below fn;generalize kdT b6=kd at*;go_wp2_with fail;refine az (fun u=>u.cell? ⟨f3,0,none⟩=some (.int .i64 cL.page)/\u.cell? ⟨gg,gj+j,none⟩=some (.int .i64 (q:Nat))) (fun k=>decide (14<=k)) vk ?_;clear fn;generalize f7.drew=h8 at*;have cs:h8.cell? ⟨f3,0,none⟩=some (.int .i64 cL.page)/\h8.cell? ⟨gg,gj+j,none⟩=some (.int .i64 (q:Nat)):=⟨hM.cell 0,(da.out h8 fs).2.1⟩;have m7:=Hk (D.out h8 fs).st bn.out.1 bn.out.2.1 (fun x hx=>by have:=bn.out.2.2.1 x hx;have hi:2<=x/\x< (U:Int):=this;omega) uA;rw[bn.out.2.2.2.1]at m7;have s0:=Hl bn.out.1;have gS:Hid (fI b6=cL.page):=bn.out.2.2.2.2.1.symm;rw[gS.out]at cr;have oW:Hid (IsB (bdT b6)):=Hm bn.out.1;generalize bdT b6=n0 at*;obtain⟨gi,eK⟩:=aa cL.page;have js:Hid (gi=cL.page):=eK;rw[<-eK]at cs cr ⊢;clear eK;have c9:=uv fs (vJ cp hM);clear fs cp hM bR;refine aj 0 cs ?_;refine aj 1 cs ?_;refine aj 2 cs ?_;refine aj 3 cs ?_;refine aj 4 cs ?_;refine aj 5 cs ?_;refine aj 6 cs ?_;refine aj 7 cs ?_;refine ah 8 fun m f=> ?_;go_wp2_with fail;refine m7.mono ?_;rintro e h6 ⟨r8,r9,rfl,cR,gf⟩;clear m7;have kk:h6.cell? ⟨f3,0,none⟩=some (.int .i64 gi)/\h6.cell? ⟨gg,gj+j,none⟩=some (.int .i64 (q:Nat)):=⟨((c9.out.2.2.below cR).cell 0).trans (by rw[js.out];rfl),(da.out h6 (C.out _ _ c9.out.1 cR)).2.1⟩;have g1:=ly gi kd r8 r9 n0 h6 (gf.bs oW.out) uA;have q4:=jK gi kd n0;have h3:=uv (C.out _ _ c9.out.1 cR) (vJ (c9.out.2.1.below cR) (c9.out.2.2.below cR));generalize pwO gi kd n0=ps at*;clear cR gf;go_wp2_with fail;refine f.out _ _ (fun _=>kk) ?_;clear f m cs;refine ah 9 fun m f=> ?_;go_wp2_with fail;refine g1.mono ?_;rintro e e7 ⟨t2,pc,rB,rfl,dd,ln⟩;clear g1;have a8:e7.cell? ⟨f3,0,none⟩=some (.int .i64 gi)/\e7.cell? ⟨gg,gj+j,none⟩=some (.int .i64 (q:Nat)):=⟨((h3.out.2.2.below dd).cell 0).trans (by rw[js.out];rfl),(da.out e7 (C.out _ _ h3.out.1 dd)).2.1⟩;have ad:=C.out _ _ h3.out.1 dd;have ba:=h3.out.2.1.below dd;have hF:=ln.reads;have q9:ob<=e7.1.size:=by have:=(D.out _ ad).fr.size;have:=a7.out.2.2.2.2.2;omega
       have ne:Hid _:=ad;clear dd ln kk ad;go_wp2_with fail;refine f.out _ _ (fun _=>a8) ?_;clear f m;refine aj 10 a8 ?_;refine aj 11 a8 ?_;refine aj 12 a8 ?_;refine ah 13 fun m f=> ?_;go_wp2_with fail;refine f.out _ _ (fun _=>a8) ?_;clear f m;refine ah 14 fun m f=> ?_;go_wp2_with fail;refine aU f ?_ (fun h=>absurd h uB);clear f m a8;go_wp2_with (at_builtin;refine mT ba hF uA q9 rfl rfl rfl rfl ?_);intro r5 sa rR gc pN b9;have cm:bP rR:=cc.out _ _ ne.out (b9.mono bS.out) (fun t bd=>by obtain⟨f8,hrow,_⟩:=ba;exact bD hrow pN bd);obtain⟨r2,fZ⟩:=aa (xs++ps);have la:r2.length=xs.length+ps.length:=by rw[fZ,wb]
       rw[<-fZ]at gc;have e6:=uv fZ (vJ la (vJ cm gc));clear fZ la cm gc pN b9 ba hF;go_wp2_with fail;go_roundw
       case rel=>exact⟨j+1,r5,sa,r2,by go_num,uA,by rw[e6.out.2.1],by rw[cr.out,e6.out.1,gT.out.1],e6.out.2.2.1,e6.out.2.2.2⟩
       case measure=>simp[intOf];omega
     ·have n6:¬(j:Int)< (W.length:Int):=uA;have qb:E.take j=E:=w5 uA;have j2:Hid (xs=noL E):=by show xs= _;rw[d1,qb]
      clear qb ft d1 a3 bv;go_wp2
      go_meet
      exact⟨rW,r0,by rw[j2.out],gT.out.2.1,by rw[<-j2.out];exact gT.out.2.2⟩
   case rest=>
    obtain⟨rW,r0,rfl,a3,bv⟩:=hcut;obtain⟨rP,S⟩:=aa wc;subst S;have oa:=sw E;obtain⟨rs,kS⟩:=aa (noL E);rw[<-kS]at bv oa ak ⊢;clear kS;have ap:=D.out rP a3;have q2:=bX.out.ln;have kP:=bX.out.len;have s3:=bX.out.u1;have oT:=Hc rP J aB T aS B a6 ap.ol ap.oi (fun x hx=>by have:=bX.out.ls x hx;omega) (fun x hx=>by have:=bX.out.mem x hx;omega) uA uA;have fB:=sd B a6;have bA:=uv a3 bv;generalize frO B a6=f1 at*;clear ap a3 bv;go_wp2_with fail;refine oT.mono ?_;rintro e sv ⟨sM,sN,rfl,b9,gc⟩;clear oT;have cm:=C.out _ _ bA.out.1 b9;have ho:=bA.out.2.below b9;have k1:=gc.reads;have k8:ob<=sv.1.size:=by have:=(D.out _ cm).fr.size;have:=a7.out.2.2.2.2.2;omega
    have oX:Hid _:=cm;clear b9 gc cm bA;go_wp2_with (at_builtin;refine mT ho k1 uA k8 rfl rfl rfl rfl ?_);intro tl ts h2 oB p0 ej;have kr:bP h2:=cc.out _ _ oX.out (ej.mono bS.out) (fun t bd=>by obtain⟨f8,hrow,_⟩:=ho;exact bD hrow p0 bd);obtain⟨i4,hB⟩:=aa (rs++f1);have bx:rs.length+f1.length=i4.length:=by rw[hB,wb]
    rw[<-hB]at oB ak;rw[bx];have gm:=bAl h2 (.cells #[.int .i64 2,.int .i64 0,.slice none 0 0] 157);have q8:ob<=h2.1.size:=wg k8 ej.size;have sX:i4.length<=400000:=uA;have bR:=uv kr (vJ oB gm);have qc:=sE;clear bx hB oB kr p0 ej ho k1 gm;have cp:=bR.out.2.1.below bR.out.2.2;have k2:=pM h2;have k9:ob<=(h2.alloc (.cells #[.int .i64 2,.int .i64 0,.slice none 0 0] 157)).1.size:=wg q8 bR.out.2.2.size;go_wp2_with (at_builtin;refine mT cp k2 (by simp;omega) k9 rfl rfl rfl rfl ?_);intro h9 ia oN gf p1 cR;have ks:bP oN:=cc.out _ _ (C.out _ _ bR.out.1 bR.out.2.2) (cR.mono bS.out) (fun t bd=>by obtain⟨f8,hrow,_⟩:=cp;exact bD hrow p1 bd);obtain⟨c7,hC⟩:=aa (i4++[opS]);have fD:i4.length+1=c7.length:=by rw[hC,wb];rfl
    rw[<-hC]at gf ak
    first|rw[fD]|(simp only[w8,AO,wE];rw[fD])
    have kF:c7.length<=400001:=by rw[<-fD];omega
    have em:=bDr oN;have ad:=C.out _ _ ks em;have ba:=gf.below em;clear fD hC gf ks p1 cR cp k2 k9 bR qc;go_wp2_with fail;refine az (fun u=>u.cell? ⟨sb,0,none⟩=some (.int .i64 i)/\u.cell? ⟨ab,1,none⟩=some (.int .i64 UZ)) (fun k=>decide (9<=k)) vk ?_;clear em;generalize oN.drew=bs at*;have gv:Hid (∀u,bP u->u.cell? ⟨sb,0,none⟩=some (.int .i64 i)/\u.cell? ⟨ab,1,none⟩=some (.int .i64 UZ)):=fun u Q=>⟨(D.out u Q).sb.cell 0,(D.out u Q).ab.cell 1⟩;have cs:=gv.out bs ad;have q5:IntKind.i64.wrap (i+1)=i+1:=ll _ uA uA;have d4:=bAl bs (.cells (al 0 0 0 0).toArray 36);have hL:=aq bs 36 (al 0 0 0 0).toArray;have hc:=gv.out _ (C.out _ _ ad d4);have bg:=uv ad (vJ ba d4);clear ad ba;refine aj 0 cs ?_;refine aj 1 cs ?_;refine aj 2 cs ?_;refine aj 3 cs ?_;refine aj 4 cs ?_;refine aj 5 cs ?_;refine aj 6 cs ?_;refine aM 7 (.agg (al (i+1) 0 UZ 0).toArray) cs ?hb7 ?_
    case hb7=>exact fun u _=>lm rfl (by simp only[wB,ws,wz];exact Hy (i+1) UZ)
    refine ah 8 fun m f=> ?_;go_wp2_with fail;refine f.out _ _ (fun _=>hc) ?_;clear f m;refine ah 9 fun m f=> ?_;refine bK (k:=bs.1.size) (cs:=al (i+1) 0 UZ 0) hL rfl (fe _ _ _ _) bj rfl rfl rfl (fun f7 a4 aA=> ?_);have cg:Below bs.1.size bs f7:=d4.trans (aA.below t6 d4.size);have et:=C.out _ _ bg.out.1 cg;have I:=uv et (vJ (bg.out.2.1.below cg) a4);have tt:f7.cell? ⟨g,1,none⟩=some (.int .i64 rt):=(D.out f7 et).st.blk.cell 1;have hK:z.1.size<=bs.1.size:=(D.out _ bg.out.1).fr.size;refine aU f ?_ (fun h=>absurd h uB);clear f m a4 aA cg d4 hL cs hc bg et;generalize bs.1.size=X at*;clear q5;have j1:Hid _:=h4.out.1;go_upto_if 169 with fail
    go_cut [] (fun ag=>bP ag/\OOp ob ag h9 ia c7/\Blk ag 36 X (al (i+1) (rtZ c8) UZ 0))
    case first=>
     cases c8 with
     |none=>
      obtain rfl:rt= -1:=j1.out;go_wp2
      go_meet
      exact⟨I.out.1,I.out.2.1,I.out.2.2⟩
     |some x=>
      obtain⟨sr,su⟩:=x;obtain⟨k6,tk,k4,_⟩:=j1.out;obtain⟨p,h5,cT,af,he,_⟩:=k4.top k6;subst cT;have s4:(0:Int)<=(p:Int):=uA;have ap:=D.out f7 I.out.1;obtain⟨b,n3,i0,_,q4⟩:=ap.st.cells af;subst n3;have nd:Hid (∀u,bP u->u.cell? ⟨g,0,none⟩=some (.slice (some ⟨b,0,none⟩) ms.length nc)/\u.cell? ⟨g,1,none⟩=some (.int .i64 (p:Nat))/\u.cell? ⟨b,p*6,none⟩=some (.int .i64 h5.page)):=fun u Q=>by
       have ca:=D.out u Q;obtain⟨tp,hf,hu,_,_⟩:=ca.st.cells af;cases hf;exact⟨ca.st.blk.cell 0,ca.st.blk.cell 1,hu 0 _ rfl⟩
      have gS:Hid (h5.page=rtZ (some (sr,su))):=he;clear af he ap i0 k6 k4;have cS:=bDr f7;have cX:=C.out _ _ I.out.1 cS;have hm:=I.out.2.1.below cS;have aX:=I.out.2.2.below cS;go_wp2_with fail;refine az (fun u=>u.cell? ⟨g,0,none⟩=some (.slice (some ⟨b,0,none⟩) ms.length nc)/\u.cell? ⟨g,1,none⟩=some (.int .i64 (p:Nat))/\u.cell? ⟨b,p*6,none⟩=some (.int .i64 h5.page)) (fun k=>decide (12<=k)) vk ?_;clear cS;generalize f7.drew=bu at*;have cs:=nd.out bu cX;generalize h5.page=gb at*;have fl:bu.cell? ⟨X,1,none⟩=some (.int .i64 0):=aX.cell 1;have sH:=aX.free 1;have d3:=ax bu X 1 (.int .i64 gb);have r7:Below z.1.size bu (bu.setCell ⟨X,1,none⟩ (.int .i64 gb)):=d3.below hK ((D.out _ cX).fr.size);have rk:=aX.set 1 (.int .i64 gb);have kt:bP (bu.setCell ⟨X,1,none⟩ (.int .i64 gb)):=jj.out bu X 1 (.int .i64 gb) cX hK ⟨_,aX⟩;have kC:OOp ob (bu.setCell ⟨X,1,none⟩ (.int .i64 gb)) h9 ia c7:=hm.keep (aw d3 aX uB) (aw d3 aX uB);have cb:=uv kt (vJ kC rk);clear cX hm aX d3 r7 rk kt kC;refine au 0 cs ?_;refine au 1 cs ?_;refine au 2 cs ?_;refine au 3 cs ?_;refine au 4 cs ?_;refine au 5 cs ?_;refine au 6 cs ?_;refine au 7 cs ?_;refine au 8 cs ?_;refine au 9 cs ?_;refine au 10 cs ?_;refine ah 11 fun m f=> ?_;go_wp2_with fail;refine f.out _ _ (fun _=>cs) ?_;clear f m;refine ah 12 fun m f=> ?_;go_wp2_with fail;refine aU f ?_ (fun h=>absurd h uB);clear f m cs;go_wp2
      go_meet
      exact⟨cb.out.1,cb.out.2.1,by rw[<-gS.out];exact cb.out.2.2⟩
    case rest=>
     obtain⟨a9,b1,L⟩:=hcut;obtain⟨br,S⟩:=aa wc;subst S;generalize rtZ c8=a1 at*;obtain⟨F,hw⟩:=aa (B.headD 0);rw[<-hw]at ak;have jl:Hid _:=hw;clear hw;have e4:=uv a9 (vJ b1 L);go_upto_if 184 with fail
     go_cut [] (fun ag=>bP ag/\OOp ob ag h9 ia c7/\Blk ag 36 X (al (i+1) a1 UZ F))
     case first=>
      by_cases p2:0<B.length
      ·have p3:(0:Int)< (B.length:Int):=uA;obtain⟨rn,rr,hf,ek⟩:=(D.out br a9).ol.get p2;subst hf;rw[cF _ _ p2]at ek;have pC:B.getD 0 0=F:=by rw[jl.out];cases B<;>rfl
       rw[pC]at ek;have hb:br.cell? ⟨rn,rr,none⟩=some (.int .i64 F):=ek;have sD:br.cell? ⟨X,3,none⟩=some (.int .i64 0):=L.cell 3;have sI:=L.free 3;have d3:=ax br X 3 (.int .i64 F);have bk:Hid (bP (br.setCell ⟨X,3,none⟩ (.int .i64 F))/\OOp ob (br.setCell ⟨X,3,none⟩ (.int .i64 F)) h9 ia c7/\Blk (br.setCell ⟨X,3,none⟩ (.int .i64 F)) 36 X (al (i+1) a1 UZ F)):=⟨jj.out br X 3 (.int .i64 F) a9 hK ⟨_,L⟩,b1.keep (aw d3 L uB) (aw d3 L uB),L.set 3 (.int .i64 F)⟩;clear pC ek d3 a9 b1 L;go_wp2
       go_meet
       exact⟨bk.out.1,bk.out.2.1,bk.out.2.2⟩
      ·have p3:¬(0:Int)< (B.length:Int):=uA;have o5:Hid (F=0):=by
        show F=0;rw[jl.out,y3 (show B.length=0 by omega)]
        rfl
       clear a9 b1 L;go_wp2
       go_meet
       exact⟨e4.out.1,e4.out.2.1,by rw[o5.out];exact e4.out.2.2⟩
     case rest=>
      obtain⟨hj,hn,eN⟩:=hcut;obtain⟨g3,S⟩:=aa wc;subst S;have nw:=pS (i+1) a1 UZ F g3;have gY:Hid _:=ak.out;clear ak a9 b1 L e4;obtain⟨gn,fP⟩:=aa (suO (i+1,a1,UZ,F));have c5:kOf (bG (i+1) a1 UZ F)=gn.length:=by rw[fP,suO,gV]
      have so:gn.length<=4:=by rw[<-c5];exact tK _
      have o3:Hid _:=fP;rw[<-fP]at gY;rw[c5]at nw;generalize dX:bG (i+1) a1 UZ F=s9 at*;have bk:=uv hj (vJ hn eN);clear fP;go_wp2_with (refine B5 rfl 36 _ rfl X rfl 36 (al (i+1) a1 UZ F).toArray (0,0) _ eN underlying36 rfl bj ?_);refine nw.mono ?_;rintro e e8 ⟨ss,rN,rfl,g6,mB⟩;clear nw hj hn eN;have m0:ROp e8 ss rN gn:=by
       have h:=mB.rop.reads;rw[o3.out,suO,dX];rw[<-c5]at h;exact h
      have en:=bDr e8;have fc:Below g3.1.size g3 e8.drew:=g6.trans (en.mono g6.size);have gt:=uv (C.out _ _ bk.out.1 fc) (vJ (bk.out.2.1.below fc) (vJ (m0.below en) (bk.out.2.2.below fc)));clear g6 mB m0 bk c5 dX en fc;go_wp2_with fail;refine az (fun u=>(Instr.loadAt 36 (.pointer (some ⟨X,0,none⟩))).run prog u= .ok (.agg (al (i+1) a1 UZ F).toArray) u) (fun k=>decide (8<=k)) vk ?_;generalize e8.drew=am at*;have Y:=gt;have cs:(Instr.loadAt 36 (.pointer (some ⟨X,0,none⟩))).run prog am= .ok (.agg (al (i+1) a1 UZ F).toArray) am:=aN Y.out.2.2.2;have eL:ob<=am.1.size:=by have:=(D.out _ Y.out.1).fr.size;have:=a7.out.2.2.2.2.2;omega
      have ak:=gY;clear gt gY;refine ai 0 cs ?_;refine ai 1 cs ?_;refine aM 3 (.agg #[.int .i64 2,.int .i64 0,.slice none 0 0]) cs ?hb3 ?_
      case hb3=>exact fun u _=>lm rfl (by simp only[wB,ws,wz];exact sE)
      refine aM 6 (.agg (al (i+1) a1 UZ F).toArray) cs ?hb6 ?_
      case hb6=>exact fun u dD=>bo (p:= .pointer (some ⟨X,0,none⟩)) rfl rfl dD
      refine fQ 2 4 vk rfl rfl (fun m f=> ?_) (fun m f=> ?_);rw[B4 (show Region.wanted _ _=true from rfl)];refine jc Y.out.2.1 Y.out.2.2.1 uA eL rfl rfl rfl ?_;intro o9 pb O l1 ko g7;have eU:∀t,157≠t->KeepT t am O:=fun t bd=>by obtain⟨f8,hrow,_⟩:=Y.out.2.1;exact bD hrow ko bd
      have bY:=cc.out _ _ Y.out.1 (g7.mono bS.out) eU;have a0:=Y.out.2.2.2.keepT (eU _ uB);refine f.out _ _ (fun _=>aN a0) ?_;clear f m;obtain⟨bz,aT⟩:=aa O.1.size;obtain⟨a2,c2⟩:=aa (O.alloc (.cells #[.int .i64 2,.int .i64 0,.slice none 0 0] 157));have d6:Below O.1.size O a2:=by rw[c2];exact bAl _ _
      have e3:ROp a2 (some ⟨bz,0,none⟩) 1 [opS]:=by rw[c2,aT];exact pM O
      refine ah 4 fun m f=> ?_;refine bU _ _ _ rfl (v:= .slice (some ⟨bz,0,none⟩) 1 1) (w':=a2) ?bsA ?_
      case bsA=>
       simp only[wB,ws,wz];rw[c2,aT];exact fq pL uA (.agg #[.int .i64 2,.int .i64 0,.slice none 0 0]) [.int .i64 2,.int .i64 0,.slice none 0 0] rfl rfl O
      have cA:=l1.below d6;have ev:=C.out _ _ bY d6;have b4:=a0.below d6;have hJ:ob<=a2.1.size:=wg eL (wg g7.size d6.size);refine f.out _ _ (fun _=>aN b4) ?_;clear f m c2 aT d6 eU bY a0 l1 ko g7
      rotate_left
      rw[B4 (show Region.wanted _ _=true from rfl)];obtain⟨bz,aT⟩:=aa am.1.size;obtain⟨O,c1⟩:=aa (am.alloc (.cells #[.int .i64 2,.int .i64 0,.slice none 0 0] 157));have cB:Below am.1.size am O:=by rw[c1];exact bAl _ _
      have e2:Blk O 157 bz [.int .i64 2,.int .i64 0,.slice none 0 0]:=by rw[c1,aT];exact aq am _ _
      refine bU _ _ _ rfl (v:= .slice (some ⟨bz,0,none⟩) 1 1) (w':=O) ?bsB ?_
      case bsB=>
       simp only[wB,ws,wz];rw[c1,aT];exact fq pL uA (.agg #[.int .i64 2,.int .i64 0,.slice none 0 0]) [.int .i64 2,.int .i64 0,.slice none 0 0] rfl rfl am
      have bY:=C.out _ _ Y.out.1 cB;have a0:=Y.out.2.2.2.below cB;refine f.out _ _ (fun _=>aN a0) ?_;clear f m c1;have eB:=Y.out.2.1.below cB;have hG:=Y.out.2.2.1.below cB;have eM:ob<=O.1.size:=wg eL cB.size;refine ah 2 fun m f=> ?_;refine jc eB hG uA eM rfl rfl rfl ?_;intro o9 pb a2 cA hg g8;have eV:∀t,157≠t->KeepT t O a2:=fun t bd=>by obtain⟨f8,hrow,_⟩:=eB;exact bD hrow hg bd
      have ev:=cc.out _ _ bY (g8.mono bS.out) eV;have b4:=a0.keepT (eV _ uB);have e3:ROp a2 (some ⟨bz,0,none⟩) 1 [opS]:=Hz ((hg.block bz e2.lt (fun e=>by obtain⟨f8,hrow,_⟩:=Y.out.2.1;have:=(Ct hrow bz e.symm).2;omega)).trans e2);have hJ:ob<=a2.1.size:=wg eM g8.size;refine f.out _ _ (fun _=>aN b4) ?_;clear f m aT cB e2 bY a0 eB hG eM eV hg g8
      all_goals
       have n7:(c7++gn).length<=500000:=by rw[wb];omega
       obtain⟨n4,fM⟩:=aa (c7++gn);rw[<-fM]at cA n7;have kR:c7.length+gn.length=n4.length:=by rw[fM,wb]
       rw[kR];have nm:Hid _:=fM;have jd:=uv ev (vJ cA b4);clear fM kR ev b4;refine ah 5 fun m f=> ?_;refine jc cA e3 (by simp;omega) hJ rfl rfl rfl ?_;intro fa fm ka l2 kp ke;have eW:∀t,157≠t->KeepT t a2 ka:=fun t bd=>by obtain⟨f8,hrow,_⟩:=cA;exact bD hrow kp bd
       have ex:=cc.out _ _ jd.out.1 (ke.mono bS.out) eW;have eR:=jd.out.2.2.keepT (eW _ uB);have c6:=(D.out _ ex).rb;have eq:=(D.out _ ex).fr;refine f.out _ _ (fun _=>aN eR) ?_;clear f m kp ke eW cA e3;have oV:Hid (OOp ob ka fa fm (n4++[opS])):=l2;refine ah 7 fun m f=> ?_;go_wp2_with fail;refine f.out _ _ (fun _=>aN eR) ?_;clear f m;refine ah 8 fun m f=> ?_;refine bK (k:=rb) (cs:=(al (i+1) a1 UZ F)) c6 rfl (fe _ _ _ _) bj rfl rfl rfl (fun e9 a4 aA=> ?_);have f6:Hid (Blk e9 36 rb (al (i+1) a1 UZ F)/\Below B0 w e9/\OOp ob e9 fa fm (n4++[opS])):=⟨a4,jk.out e9 (eq.trans (aA.below (by have:=f4.out.2;have:=bT.out;omega) (wg ju.out.2.2 eq.size))),oV.out.keep (aw aA c6 uB) (aw aA c6 uB)⟩;refine ao f ?_ (fun h=>absurd h uB);clear f m a4 aA c6 eq ex eR l2;refine ah 9 fun m f=> ?_;go_wp2_with fail;refine aU f ?_ (fun h=>absurd h uB);clear f m;have eb:Hid (R.1=n4++[opS]/\R.2.1=(i+1,a1,UZ,F)/\R.2.2=0):=by
        show _/\_;rw[ak.out,nm.out];exact⟨by rw[wv],rfl,rfl⟩
       go_wp2_with fail;refine B3 (v:= .tuple #[.slice fa (n4.length+1) fm,.agg (al (i+1) a1 UZ F).toArray,.int .i64 0]) ?_ rfl ?_
       ·exact jL results99 _ _ rb 36 (al (i+1) a1 UZ F).toArray _ rfl f6.out.1 underlying36 rfl bj rfl rfl
       ·rw[eb.out.1,eb.out.2.1,eb.out.2.2];exact⟨fa,fm,by rw[wb];rfl,f6.out.2.1,OOp.mono f6.out.2.2 bS.out⟩
