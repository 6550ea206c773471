import Derived.Test.YtglbanolhhjjiaaGreatDoorFo44
namespace Go.Proofs.YtglbanolhhjjiaaGreatDoor
open Go.Proofs.Tryz
open Go.RowKit
set_option linter.unusedVariables false
set_option maxRecDepth 100000
set_option maxHeartbeats 32000000
structure WhF(K:DK)(gen root used fr:Int)(fs own:List Int):Prop where
 ok:aR K=true
 sup:bG gen root used fr=true
 np:used<=((nPg K:Nat):Int)
 tp:tpB K root=true
 t:∀x∈tpL K root,2<=x/\x<used
 f:∀x∈fs,2<=x/\x<used
 o:∀x∈own,2<=x/\x<used
theorem Hw{K f c a fr i g}(h:whS K f c a fr=true)(j:flT K fr=some (i,g)):WhF K f c a fr i g:=by
 unfold whS at h;simp only[wz,DB]at h;have b:=h.2;unfold iG at b;rw[j]at b;simp only[wz]at b;have k:=mW h.1.1.2;have d:=Hr b.2;have e:((a.toNat:Nat):Int)=a:=t7;rw[e]at d;exact⟨h.1.1.1,h.1.1.2,h.1.2,b.1,d.1,d.2.1,d.2.2⟩
theorem Hx(a n c u):prog.built 208 [(0,.slice a n c),(1,.int .i64 u)]=some #[.slice a n c,.int .i64 u]:=uA
theorem jL{P:Program}{c:Func}{p q r:Tmp}{b:TypeId}(s:c.results=#[.tmp q,.cell p b,.tmp r])(a:Array Value)(w:World)(g:Nat)(t:TypeId)(cs:Array Value)(d:TypeDesc){u v:Value}
 (l:a.getD p undef= .pointer (some ⟨g,0,none⟩))(j:w.heap[g]?=some (.cells cs t (0,0)))(o:P.underlying b=some d)(i:(match d with| .struct _| .array _ _=>true|_=>false)=true)(k:(P.info? b).map (·.size)=some cs.size)(m:a.getD q undef=u)(n:a.getD r undef=v):
 (results c a).run P w= .ok (.tuple #[u,.agg cs,v]) w:=by
 have e:a[p]?.getD undef= .pointer (some ⟨g,0,none⟩):=by simpa using l
 have f:a[q]?.getD undef=u:=by simpa using m
 have h:a[r]?.getD undef=v:=by simpa using n
 simp[results,s,e,f,h,asAddr,run_loadVar_row w g t b cs (0,0) d j o i k]
structure LsS(B0 g:Nat)(rest:List Value)(rt:Int)(nv:Nat->NdV)(na:Option Addr)(nc ab:Nat)(w1:World)(a:Tk)(ms:List NdK)(qs:List Int)(oa:Option Addr)(oc:Nat)(fa:Option Addr)(fc:Nat)(ids:List Int)(ia:Option Addr)(ic:Nat)(ls:List Int)(la:Option Addr)(lc:Nat)(u:World):Prop where
 s:WrS B0 g rest rt nv na nc ab w1 a ms qs oa oc fa fc u
 oi:Own1 3 w1.1.size u ia ids.length ic (on ids)
 ol:Own1 3 w1.1.size u la ls.length lc (on ls)
 p1:∀k,(Value.slice ia ids.length ic).ownBlock=some k->(Value.slice la ls.length lc).ownBlock≠some k
 p2:∀k,(Value.slice oa qs.length oc).ownBlock=some k->(Value.slice la ls.length lc).ownBlock≠some k
structure LsB(F U:Nat)(a:Tk)(ids ls:List Int):Prop where
 len:ids.length<=F
 mem:∀x∈ids,0<=x/\x< ((U+1:Nat):Int)
 fr:∀x∈a.1,2<=x/\x<a.2
 u0:2<=a.2
 u1:a.2<=(U:Int)+ls.length
 ln:59*ls.length<=F+59
 ls:∀x∈ls,0<=x/\x< (U:Int)+ls.length
 fl:a.1.length<=65536
 uL:(U:Int)<=a.2
theorem LsB.next{j U a d b ls e id}(f:LsB j U a d ls)(g:(tk1 a).1=id)(p:59*ls.length<d.length)(m:b.length<=d.length)(i:∀x∈b,x∈d)(h:e=ls++[id]):LsB j U (tk1 a).2 b e:=by
 have k:=rV a 0 f.fr f.u0;have q:=lu a;have l:=f.u1;have n:=f.len;have o:=f.fl;have c:e.length=ls.length+1:=by rw[h,u7];rfl
 refine⟨t7,fun x hx=>f.mem x (i x hx),k.2.1,by have:=f.u0;omega,by rw[c];omega,by rw[c];omega,fun x hx=> ?_,t7,by have:=f.uL;omega⟩;rw[h]at hx;rcases wE.1 hx with hx|hx
 ·have:=f.ls x hx;rw[c];omega
 ·simp at hx;subst hx;rw[<-g,c];omega
theorem LsS.below{B0 g rest rt nv na nc ab w1 a ms n l m d e b h i ls j k u o}(f:LsS B0 g rest rt nv na nc ab w1 a ms n l m d e b h i ls j k u)(c:Below u.1.size u o):LsS B0 g rest rt nv na nc ab w1 a ms n l m d e b h i ls j k o:=⟨f.s.below c,f.oi.below c,f.ol.below c,f.p1,f.p2⟩
structure WrE(B0 g:Nat)(rest:List Value)(rt:Int)(nv:Nat->NdV)(na:Option Addr)(nc ab:Nat)(w1:World)(db sb rb:Nat)(sc:List Value)(a:Tk)(ms:List NdK)(qs:List Int)(oa:Option Addr)(oc:Nat)(fa:Option Addr)(fc:Nat)(ids:List Int)(ia:Option Addr)(ic:Nat)(ls:List Int)(la:Option Addr)(lc:Nat)(u:World):Prop where
 fr:Below B0 w1 u
 st:USt B0 g rest rt u ms nv na nc
 ab:Blk u 208 ab [.slice fa a.1.length fc,.int .i64 a.2]
 sb:Blk u 36 sb sc
 rb:Blk u 36 rb (al 0 0 0 0)
 ord:R1 3 u oa qs.length oc (on qs)
 oi:R1 3 u ia ids.length ic (on ids)
 ol:R1 3 u la ls.length lc (on ls)
section
variable {B0 g:Nat} {rest:List Value} {rt:Int} {nv:Nat->NdV} {na:Option Addr} {nc ab:Nat} {w1:World} {db sb rb:Nat} {sc:List Value} {a:Tk} {ms:List NdK} {qs:List Int} {oa:Option Addr} {oc:Nat} {fa:Option Addr} {fc:Nat} {ids:List Int} {ia:Option Addr} {ic:Nat} {ls:List Int} {la:Option Addr} {lc:Nat} {u u':World}
theorem LsS.toE(b:LsS B0 g rest rt nv na nc ab w1 a ms qs oa oc fa fc ids ia ic ls la lc u)(e:∀t,t≠208->t≠176->KeepT t w1 u)(c:Blk u 36 sb sc)(d:Blk u 36 rb (al 0 0 0 0)):WrE B0 g rest rt nv na nc ab w1 db sb rb sc a ms qs oa oc fa fc ids ia ic ls la lc u:=
 ⟨b.s.fr,b.s.st,b.s.tk.blk,c,d,b.s.ord.r1 (fw _),b.oi.r1 (fw _),b.ol.r1 (fw _)⟩
theorem WrE.keep(c:WrE B0 g rest rt nv na nc ab w1 db sb rb sc a ms qs oa oc fa fc ids ia ic ls la lc u)(d:Below B0 u u')(b:∀t,157≠t->KeepT t u u'):WrE B0 g rest rt nv na nc ab w1 db sb rb sc a ms qs oa oc fa fc ids ia ic ls la lc u':=
 ⟨c.fr.trans d,⟨c.st.blk.keepT (b _ uv),cw c.st.nodes (b _ uv),fun i e=>(c.st.each i e).keep (b _ uv) (b _ uv),u9 c.st.gB d.size⟩,c.ab.keepT (b _ uv),c.sb.keepT (b _ uv),c.rb.keepT (b _ uv),c.ord.keep (b _ uv),c.oi.keep (b _ uv),c.ol.keep (b _ uv)⟩
theorem WrE.below(c:WrE B0 g rest rt nv na nc ab w1 db sb rb sc a ms qs oa oc fa fc ids ia ic ls la lc u)(b:Below u.1.size u u'):WrE B0 g rest rt nv na nc ab w1 db sb rb sc a ms qs oa oc fa fc ids ia ic ls la lc u':=c.keep (b.mono c.st.gB) (fun t _=>aV b)
theorem WrE.setS(c:WrE B0 g rest rt nv na nc ab w1 db sb rb sc a ms qs oa oc fa fc ids ia ic ls la lc u){k}(h:w1.1.size<=k)(d:∃cs,Blk u 36 k cs)(l:sb<w1.1.size/\rb<w1.1.size/\B0<=w1.1.size)(j v):WrE B0 g rest rt nv na nc ab w1 db sb rb sc a ms qs oa oc fa fc ids ia ic ls la lc (u.setCell ⟨k,j,none⟩ v):=by
 obtain⟨cs,d⟩:=d;have o:=ax u k j v;have b:∀t,36≠t->KeepT t u (u.setCell ⟨k,j,none⟩ v):=fun t f=>aw o d f;exact⟨c.fr.trans (o.below t7 c.st.gB),⟨c.st.blk.keepT (b _ uv),cw c.st.nodes (b _ uv),fun i e=>(c.st.each i e).keep (b _ uv) (b _ uv),u9 c.st.gB o.size⟩,c.ab.keepT (b _ uv),c.sb.only o t7,c.rb.only o t7,c.ord.keep (b _ uv),c.oi.keep (b _ uv),c.ol.keep (b _ uv)⟩
end
theorem sy{u k a b n c m e}(d:Blk u 35 k [.slice a n c,.slice b m e]):(Instr.loadAt 35 (.pointer (some ⟨k,0,none⟩))).run prog u= .ok (.agg #[.slice a n c,.slice b m e]) u:=by
 simp only[Instr.loadAt,Instr.sureAddr,B3,Ct,Result.andThen];exact C3 u k 35 35 #[.slice a n c,.slice b m e] (0,0) _ d underlying35 rfl gD
theorem pr:prog.built 36 []=some #[.int .i64 0,.int .i64 0,.int .i64 0,.int .i64 0]:=uA
theorem Hy(x y):prog.built 36 [(0,.int .i64 x),(2,.int .i64 y)]=some #[.int .i64 x,.int .i64 0,.int .i64 y,.int .i64 0]:=uA
theorem sE:prog.built 157 [(0,.int .i64 2)]=some #[.int .i64 2,.int .i64 0,.slice none 0 0]:=uA
theorem fe(a b c d):∀v∈al a b c d,v.oneCell'=true:=by simp[al,Value.oneCell']
theorem aN{u k a b c d}(e:Blk u 36 k (al a b c d)):(Instr.loadAt 36 (.pointer (some ⟨k,0,none⟩))).run prog u= .ok (.agg (al a b c d).toArray) u:=by
 simp only[Instr.loadAt,Instr.sureAddr,B3,Ct,Result.andThen];exact C3 u k 36 36 (al a b c d).toArray (0,0) _ e underlying36 rfl bj
theorem Hz{w b}(d:Blk w 157 b [.int .i64 2,.int .i64 0,.slice none 0 0]):ROp w (some ⟨b,0,none⟩) 1 [opS]:=
 ⟨fun _=>(none,0),ORow.reads (B:=0) (lL (f:=opF [opS] fun _=>(none,0)) (n:=1) d (jb _ _ _) (u6 _) t7) (jb _ _ _),fun i c=>by
  have a:i=0:=by simp at c;omega
  subst a;exact⟨jO _ _,eX⟩⟩
theorem pt(w b):ROp w (some ⟨b,0,none⟩) 0 []:=⟨fun _=>(none,0),⟨jb _ _ _,t1,u6 _,fun e=>(by cases e),fun c=>by simp at c⟩,fun i a=>by simp at a⟩
variable {B0 g:Nat} {rest:List Value} {rt:Int} {w:World} {ns:List NdK} {nv:Nat->NdV} {na:Option Addr} {nc:Nat}
theorem Ia(oK:USt B0 g rest rt w ns nv na nc){o}(oa:UO ns rt o)(kV:ns.length<=600000)(d K)(sf:RDisk w d K)(h m i fr ic f4)(dr:WhF K h m i fr ic f4)(fB:flT K fr=some (ic,f4))(i2:∀x∈pgZ o,x=0\/x∈tpL K m)(R)(p6:R=wrR (nPg K) h i o (tpL K m) ic f4):
 Calls prog 99 #[.pointer (some ⟨g,0,none⟩),av d K,.agg (al h m i fr).toArray] w fun e w'=> ∃a c,e= .returned (.tuple #[.slice a R.1.length c,.agg (al R.2.1.1 R.2.1.2.1 R.2.1.2.2.1 R.2.1.2.2.2).toArray,.int .i64 R.2.2])/\Below B0 w w'/\OOp B0 w' a c R.1:=by
 obtain⟨cP,dF⟩:=aa (w.alloc (.cells #[.slice d.sa K.n d.sc,.slice d.pa K.m d.pc] 35));obtain⟨cR,dI⟩:=aa (cP.alloc (.cells (al h m i fr).toArray 36));obtain⟨ga,dP⟩:=aa (cR.alloc (.cells (al 0 0 0 0).toArray 36));obtain⟨Z,dS⟩:=aa (ga.alloc (.cells #[] 157));have oC:Below w.1.size w cP:=by rw[dF];exact bAl _ _
 have oD:Below cP.1.size cP cR:=by rw[dI];exact bAl _ _
 have oF:Below cR.1.size cR ga:=by rw[dP];exact bAl _ _
 have oG:Below ga.1.size ga Z:=by rw[dS];exact bAl _ _
 have oN:cP.1.size=w.1.size+1:=by rw[dF];simp
 have oO:cR.1.size=w.1.size+1+1:=by rw[dI];simp[oN]
 have oR:ga.1.size=w.1.size+1+1+1:=by rw[dP];simp[oO]
 have hY:Below cR.1.size cR Z:=oF.trans (oG.mono oF.size);have hX:Below cP.1.size cP Z:=oD.trans (hY.mono oD.size);have d5:Below w.1.size w Z:=oC.trans (hX.mono oC.size);have i3:Blk Z 35 w.1.size [.slice d.sa K.n d.sc,.slice d.pa K.m d.pc]:=(by rw[dF];exact aq w _ _:Blk cP 35 w.1.size [.slice d.sa K.n d.sc,.slice d.pa K.m d.pc]).below hX;have i4:Blk Z 36 (w.1.size+1) (al h m i fr):=(by rw[dI,<-oN];exact aq cP _ _:Blk cR 36 (w.1.size+1) (al h m i fr)).below hY;have ok:Blk Z 36 (w.1.size+1+1) (al 0 0 0 0):=(by rw[dP,<-oO];exact aq cR _ _:Blk ga 36 (w.1.size+1+1) (al 0 0 0 0)).below oG;have oB:OOp w.1.size Z (some ⟨w.1.size+1+1+1,0,none⟩) 0 []:=by rw[dS,<-oR];exact mS _ _ t7
 have sv:Z.1.size=w.1.size+1+1+1+1:=by rw[dS];simp[oR]
 have rC:(prog.info? 35).map (·.size)=some (#[Value.slice d.sa K.n d.sc,Value.slice d.pa K.m d.pc]:Array Value).size:=gD;have np:Hid (∀u,Below Z.1.size Z u->RDisk u d K):=fun u Q=>sf.below (d5.trans (Q.mono d5.size));have m3:=oK.below d5;have bW:Hid (B0<=w.1.size):=oK.gB;have gG:Hid (K.n<=4096):=(gK dr.ok).1.2.1;have e5:Hid (1<=h/\h<=1000000000000/\2<=i/\i<=1024):=(mW dr.sup).1;have o3:Hid ((tpL K m).length<=1048576):=by
  show(tpL K m).length<=1048576;unfold tpL;split
  ·simp
  ·have:=oe (pgO ‹Option Tr›) (nPg K);have:nPg K<=1048576:=by have:=(gK dr.ok).1.2.1;unfold nPg;omega
   omega
 unfold av;go_enter func99,ntmps99;go_upto_region 2 with fail
 change Code.wp _ _ _ _ ((((w.alloc (.cells #[.slice d.sa K.n d.sc,.slice d.pa K.m d.pc] 35)).alloc (.cells (al h m i fr).toArray 36)).alloc (.cells (al 0 0 0 0).toArray 36)).alloc (.cells #[] 157));rw[<-dF,<-dI,<-dP,<-dS];obtain⟨nb,kU⟩:=aa (w.1.size+1+1+1);obtain⟨rb,k3⟩:=aa (w.1.size+1+1);obtain⟨sb,k5⟩:=aa (w.1.size+1);obtain⟨bB,kN⟩:=aa w.1.size;rw[<-kU]at oB ⊢;rw[<-k3]at ok ⊢;rw[<-k5]at i4 ⊢;rw[<-kN]at i3 ⊢;have ht:w.1.size<=bB/\bB<sb/\sb<rb/\rb<nb/\nb<Z.1.size:=t7;have f5:=t6 d5 ht;have bl:=t6 i3 (u2 i4 (u2 ok (u2 oB m3)));have pg:Z.cell? ⟨sb,1,none⟩=some (.int .i64 m):=i4.cell 1;have nx:=wY d K m Z (np.out _ t2);clear dF dI dP dS oC oD oF oG oN oO oR sv hY hX d5 kU k3 k5 kN oB ok i4 m3 oK ht;unfold av at nx;go_wp2_with (refine BD rfl 35 _ rfl bB rfl 35 #[.slice d.sa K.n d.sc,.slice d.pa K.m d.pc] (0,0) _ i3 underlying35 rfl rC ?_);refine nx.mono ?_;rintro e rO ⟨kc,kn,rfl,g9,rs⟩;have lb:=bl.out.1.below g9;have le:=bl.out.2.1.below g9;have m8:=yj d K h m i fr rO (np.out rO g9);unfold av at m8;have bA:=t6 g9 rs;clear g9 rs nx pg i3;go_wp2_with (first|(refine BD rfl 35 _ rfl bB rfl 35 #[.slice d.sa K.n d.sc,.slice d.pa K.m d.pc] (0,0) _ lb underlying35 rfl rC ?_)|(refine BD rfl 36 _ rfl sb rfl 36 (al h m i fr).toArray (0,0) _ le underlying36 rfl bj ?_));refine m8.mono ?_;rintro e bf ⟨ca,an,b6,rz,cW,cX,rQ,wc,rfl,md,mp,hv,hD,dX⟩;clear m8 lb le;have qc:an=ic/\b6=f4/\rz=true:=by
  rcases dX with⟨es,hi⟩|⟨es,_⟩
  ·rw[fB]at es;cases es;exact⟨rfl,rfl,hi⟩
  ·rw[fB]at es;cases es
 obtain⟨rfl,rfl,rfl⟩:=qc;have dl:Below Z.1.size Z bf:=bA.out.1.trans (ca.mono bA.out.1.size);have lf:=bl.out.2.1.below dl;have pk:bf.cell? ⟨sb,2,none⟩=some (.int .i64 i):=lf.cell 2;have qb:=Hx cW an.length cX i;obtain⟨ef,dU⟩:=aa (bf.alloc (.cells #[.slice cW an.length cX,.int .i64 i] 208));obtain⟨z,cr⟩:=aa (ef.alloc (.cells #[] 157));have oI:Below bf.1.size bf ef:=by rw[dU];exact bAl _ _
 have gn:Below ef.1.size ef z:=by rw[cr];exact bAl _ _
 have d7:Below bf.1.size bf z:=oI.trans (gn.mono oI.size);have fd:Below Z.1.size Z z:=dl.trans (d7.mono dl.size);have jd:ef.1.size=bf.1.size+1:=by rw[dU];simp
 obtain⟨ob,dW⟩:=aa (bf.1.size+1);obtain⟨ab,hr⟩:=aa bf.1.size;have m4:TkSt z z ab (an,i) cW cX:=⟨(by rw[hr];exact(by rw[dU];exact aq bf _ _:Blk ef 208 bf.1.size [.slice cW an.length cX,.int .i64 i]).below gn),(md.r1 (fw _)).below d7⟩;have hU:OOp ob z (some ⟨ob,0,none⟩) 0 []:=by rw[dW,cr,<-jd];exact mS _ _ t1
 have q8:Blk z 157 ob []:=by rw[dW,cr,<-jd];exact aq ef _ _
 have rW:z.1.size=ob+1:=by rw[dW,cr];simp[jd]
 have od:w.1.size<=ab:=by have:=f5.out.1.size;have:=dl.size;omega
 have h2:=bl.out.2.2.2.2.below fd;have m1:R1 3 z kc (tpL K m).length kn (on (tpL K m)):=((bA.out.2.r1 (fw _)).below ca).below d7;have m2:R1 3 z rQ b6.length wc (on b6):=(mp.r1 (fw _)).below d7;have qf:=bW.out;have jT:Hid (sb<z.1.size/\rb<z.1.size/\B0<=z.1.size):=by show _/\_;have:=f5.out.2;have:=fd.size;omega
 have m9:Hid (ab<ob):=by show ab<ob;omega
 have g1:=Hu h2 oa kV (an,i) m4 t7 (by show 0<=i;have:=e5.out;omega) (by show i<=1024;have:=e5.out;omega) (by show an.length<=65536;omega);have ha:z.cell? ⟨g,1,none⟩=some (.int .i64 rt):=h2.blk.cell 1;have a7:=t6 fd (u2 hU (u2 m1 (u2 m2 (u2 od rW))));have bm:Hid _:=Ht (N:=600000) oa (fun x hx=>by rcases i2 x hx with bP|bP;exact u5 bP;exact u4 (dr.t x bP)) dr.f (by have:=e5.out;omega) kV;have dc:=t6 hv (u2 hD (u2 dr.t dr.o));have hp:Hid _:=p6;rw[wrR]at hp;generalize tpL K m=mm at*;clear ca md mp hv hD dX dl lf oI gn d7 fd m4 hU q8 rW h2 m1 m2 dr i2 oa fB p6 qf;go_upto_region 6 with fail
 change Code.wp _ _ _ _ ((bf.alloc (.cells #[.slice cW an.length cX,.int .i64 i] 208)).alloc (.cells #[] 157));rw[<-dU,<-cr,<-dW,<-hr];clear dU cr jd dW hr pk qb;go_wp2_with fail;refine g1.mono ?_;rintro e u ⟨ms,W,bE,bF,cj,cl,P,rfl,p7,q1,kF,p5⟩;clear g1 ha;generalize plO o (an,i)=r at*;obtain⟨c9,o7,E⟩:=r;have sg:ms.length<=600000:=t7;clear q1;have fz:WrS B0 g rest rt nv na nc ab z o7 ms W bE bF cj cl u:=p7;have eC:UO ms rt c9:=kF;have kE:OrdR ms P W E:=p5;clear p7 kF p5;obtain⟨M,nB⟩:=o7;have s0:i<=nB:=bm.out.lo;have sX:nB<=i+600000:=by have:=bm.out.hi;simpa using this
 have s5:=e5.out;obtain⟨U,rfl⟩:=xb (show 0<=nB by omega);have tt:U<=601024:=t7;have pb:u.cell? ⟨ab,1,none⟩=some (.int .i64 (U:Nat)):=fz.tk.blk.cell 1;have r1:(Instr.makeSlice 111 (.int .i64 ((U:Int)+1)) (.int .i64 ((U:Int)+1))).run prog u= .ok (.slice (some ⟨u.1.size,0,none⟩) (U+1) (U+1)) (u.alloc (.cells (madeCells #[.bool false] (U+1)) 4)):=jG (U+1) t7 u;have mN:=bAl u (.cells (madeCells #[.bool false] (U+1)) 4);have hQ:=jH 0 (U+1) t7 u (u6 _);have c1:=fz.below mN;have o6:=Hv c1.st eC t7 (N:=U+1) t7 hQ (fun x hx=>by have:=bm.out.pgs x hx;show 0<x/\x< ((U+1:Nat):Int);have hi:2<=x/\x< (U:Int):=this;omega);have ha:(u.alloc (.cells (madeCells #[.bool false] (U+1)) 4)).cell? ⟨g,1,none⟩=some (.int .i64 rt):=c1.st.blk.cell 1;have oc:z.1.size<=u.1.size:=fz.fr.size;obtain⟨_,r9,kH⟩:=hQ.blk;have bg:=t6 c1 kH;have h5:=t6 eC kE;clear fz hQ c1 eC kE kH;go_upto_region 8 with fail
 generalize u.alloc (.cells (madeCells #[.bool false] (U+1)) 4)=sA at*;generalize u.1.size=mb at*;clear r1 pb;go_wp2_with fail;refine o6.mono ?_;rintro e m5 ⟨rfl,lo,lk⟩;clear o6 ha;have n2:=bDr m5;have bb:=((bg.out.1.onlyT lo bg.out.2 oc uv uv uv).below n2);have hR:=lk.below n2;clear lo lk;go_wp2_with fail;refine az (fun u=>u.cell? ⟨ab,0,none⟩=some (.slice cj M.length cl)/\u.cell? ⟨ab,1,none⟩=some (.int .i64 (U:Nat))) (fun k=>decide (12<=k)) uA ?_;clear n2;generalize m5.drew=r2 at*;have cs:r2.cell? ⟨ab,0,none⟩=some (.slice cj M.length cl)/\r2.cell? ⟨ab,1,none⟩=some (.int .i64 (U:Nat)):=⟨bb.tk.blk.cell 0,bb.tk.blk.cell 1⟩;have kI:=bb.kT 3 uv uv;have kA:∀x∈M,2<=x/\x< (U:Int):=bm.out.fr;have qP:M.length<=65536:=u9 bm.out.fl dc.out.1;have ka:=Ha r2 cj kc rQ cl kn wc 0 mb (U+1) M mm (pgZ c9) b6 t7 (bb.tk.row.keep kI) (a7.out.2.2.1.keep kI) (a7.out.2.2.2.1.keep kI) hR (fun x hx=>by have:=kA x hx;omega) (fun x hx=>by have:=dc.out.2.2.1 x hx;omega) (fun x hx=>by have:=dc.out.2.2.2 x hx;omega) t7 o3.out (by have:=dc.out.2.1;omega);have gt:Hid _:=bb;clear kI kA bb hR;refine aj 0 cs ?_;refine aj 1 cs ?_;refine aj 2 cs ?_;refine aj 3 cs ?_;refine aj 4 cs ?_;refine aj 5 cs ?_;refine aj 6 cs ?_;refine aj 7 cs ?_;refine aj 8 cs ?_;refine aj 9 cs ?_;refine aj 10 cs ?_;refine aj 11 cs ?_;refine ah 12 fun l f=> ?_;go_wp2_with fail;refine ka.mono ?_;rintro e cL ⟨b3,b4,rfl,ch,hT⟩;clear ka;obtain⟨b9,ds⟩:=aa (mkd (idS M mm (pgZ c9) b6) (U+1));rw[<-ds]at hT ⊢;have sM:b9.length<=U+1:=by rw[ds];exact oe _ _
 have p4:∀x∈b9,0<=x/\x< ((U+1:Nat):Int):=by rw[ds];exact fun x hx=>Hq hx
 have oX:Hid _:=ds;have I:=t6 (gt.out.below ch) (hT.mono gt.out.fr.size);clear ch hT ds cs;go_wp2_with fail;refine ao f ?_ (fun bP=>absurd bP uv);clear f l;refine ah 13 fun l f=> ?_;go_wp2_with fail;refine aU f ?_ (fun bP=>absurd bP uv);clear f l;obtain⟨g4,c4⟩:=aa (cL.alloc (.cells #[] 3));have hW:Below cL.1.size cL g4:=by rw[c4];exact bAl _ _
 have lt:Own1 3 z.1.size g4 (some ⟨cL.1.size,0,none⟩) 0 0 []:=by rw[c4];exact fU _ _ _ I.out.1.fr.size
 have cc:Hid (LsS B0 g rest rt nv na nc ab z (M,(U:Int)) ms W bE bF cj cl b9 b3 b4 [] (some ⟨cL.1.size,0,none⟩) 0 g4):=⟨I.out.1.below hW,I.out.2.below hW,lt,fun k bC e=>by
  have:=(BS I.out.2 k bC).2;simp[Value.ownBlock]at e;omega,fun k bC e=>by
  have:=(BS I.out.1.ord k bC).2;simp[Value.ownBlock]at e;omega⟩
 obtain⟨gs,q4⟩:=aa (lsL b9.length (M,(U:Int)) b9 []);have nq:Hid _:=q4;clear hW lt q4;go_upto_block 0 with fail
 rw[<-c4];clear c4;generalize qs:cL.1.size=ty at*;clear qs;go_cut [19,20] (fun d8 d9 ag=> ∃(cW:Option Addr)(cX:Nat)(b3:Option Addr)(b4:Nat)(hN:Option Addr)(hO:Nat),d8= .slice b3 gs.2.1.length b4/\d9= .slice hN gs.2.2.length hO/\LsS B0 g rest rt nv na nc ab z gs.1 ms W bE bF cW cX gs.2.1 b3 b4 gs.2.2 hN hO ag/\LsB b9.length U gs.1 gs.2.1 gs.2.2)
 case first=>
  go_wp2_with fail;go_loopw [19,20] (fun d8 d9 wr=> ∃(a:Tk)(A ls:List Int)(cW:Option Addr)(cX:Nat)(b3:Option Addr)(b4:Nat)(hN:Option Addr)(hO:Nat),d8= .slice b3 A.length b4/\d9= .slice hN ls.length hO/\gs=lsL (b9.length-ls.length) a A ls/\LsS B0 g rest rt nv na nc ab z a ms W bE bF cW cX A b3 b4 ls hN hO wr/\LsB b9.length U a A ls) (fun _ d9 _=>20000-li d9)
  case atStart=>exact⟨(M,(U:Int)),b9,[],cj,cl,b3,b4,_,0,rfl,rfl,nq.out,cc.out,⟨t1,p4,bm.out.fr,by show 2<=(U:Int);omega,by show(U:Int)<=_;simp,uB,uB,qP,z7 _⟩⟩
  case round=>
   obtain⟨a,A,ls,ck,cm,aB,aS,J,T,rfl,rfl,f0,dD,ae⟩:=hrel;obtain⟨gr,S⟩:=aa wr;subst S;have kR:=ae.len;have q0:=ae.ln;have gB:=t6 f0 (u2 dD ae);by_cases n4:59*ls.length<A.length
   ·have hu:59*(ls.length:Int)< (A.length:Int):=t7;have o5:=yz dD.s.tk (dD.s.kT _ uv uv) (by have:=ae.fl;omega) (by have:=ae.u0;omega) (by have:=ae.u1;omega);have cv:=Hp (a:=a) n4 kR;have j1:Hid _:=cv;generalize kP:(tk1 a).1=id at*;have oY:Hid _:=kP;clear cv kP f0 dD ae;go_wp2_with fail;refine o5.mono ?_;rintro e v1 ⟨rfl,op,dp,dq,rL⟩;clear o5;have b0:=gB.out.2.1;have oj:∀t,208≠t->KeepT t gr v1:=fun t bd=>aw op b0.s.tk.blk bd;have hk:LsS B0 g rest rt nv na nc ab z (tk1 a).2 ms W bE bF dp dq A aB aS ls J T v1:=⟨b0.s.onlyA op rL,b0.oi.keep (oj _ uv),b0.ol.keep (oj _ uv),b0.p1,b0.p2⟩;have cg:Hid _:=hk;obtain⟨V,a5⟩:=aa (if lw a then wol id A else A);rw[<-a5]at j1;have js:Hid _:=a5;have p2:V.length<=A.length:=by
     rw[a5];split
     ·exact yE _ _
     ·exact t1
    have p3:∀x∈V,x∈A:=by
     rw[a5];split
     ·exact fun x hx=>(List.mem_filter.1 hx).1
     ·exact fun x hx=>hx
    have h8:=G8 v1 aB aS A id (hk.oi.r1 (fw _)) t7;generalize hH:lw a=sr at*;clear op rL b0 oj hk a5;go_upto_if 98 with fail
    go_cut [19] (fun d8 ag=> ∃b3 b4,d8= .slice b3 V.length b4/\LsS B0 g rest rt nv na nc ab z (tk1 a).2 ms W bE bF dp dq V b3 b4 ls J T ag)
    case first=>
     cases sr with
     |false=>
      have af:Hid (V=A):=js.out;clear h8 hH;go_wp2
      go_meet
      exact⟨aB,aS,by rw[af.out],by rw[af.out];exact cg.out⟩
     |true=>
      have af:Hid (V=wol id A):=js.out;clear hH;go_wp2_with fail;refine h8.mono ?_;rintro e v2 ⟨cz,cA,rfl,nT,ox⟩;clear h8;have cp:LsS B0 g rest rt nv na nc ab z (tk1 a).2 ms W bE bF dp dq (wol id A) cz cA ls J T v2:=⟨cg.out.s.below nT,ox.mono cg.out.s.fr.size,cg.out.ol.below nT,fun k bC e=>by
       have es:=(BS ox k bC).1;have hi:=(BS cg.out.ol k e).2;omega,cg.out.p2⟩
      have ac:Hid _:=cp;clear nT ox cp;go_wp2
      go_meet
      exact⟨cz,cA,by rw[af.out],by rw[af.out];exact ac.out⟩
    case rest=>
     obtain⟨cz,cA,rfl,cp⟩:=hcut;obtain⟨v2,S⟩:=aa wc;subst S;have ac:Hid _:=cp;have q5:=cp.s.fr.size;clear cp h8 hH;go_wp2_with (at_builtin;refine C2 rfl fun _ f=>je _ _ co rfl z.1.size J ls.length T (on ls) rfl ac.out.ol (.int .i64 id) rfl rfl t7 t7 q5 (fun i0 n1 su rv r4 hh ke=>f _ _ ?_));have i6:=bAl v2 (.cells #[.int .i64 id] 3);have rB:=ac.out.s.below i6;have hV:∀k,(Value.slice cz V.length cA).ownBlock=some k->(Value.slice J ls.length T).ownBlock≠some k:=ac.out.p1;have e1:∀{v:Value}{n:Nat}{xs:List Value}{s:Nat},v2.ownsRow z.1.size 3 s v n xs->(∀k,v.ownBlock=some k->(Value.slice J ls.length T).ownBlock≠some k)->∀k,v.ownBlock=some k->(Value.slice (some ⟨i0,0,none⟩) (ls.length+1) n1).ownBlock≠some k:=fun sn i2 k bC e=>by
      have dV:=(BS sn k bC).2;have sa:i0=k:=by simpa [Value.ownBlock]using e
      rcases ke with cV|cV
      ·refine i2 k bC ?_;have af:J=some ⟨i0,0,none⟩:=cV;rw[af,<-sa];simp[Value.ownBlock]
      ·omega
     obtain⟨hP,c5⟩:=aa (ls++[id]);have bx:hP.length=ls.length+1:=by rw[c5,u7];rfl
     have b1:LsS B0 g rest rt nv na nc ab z (tk1 a).2 ms W bE bF dp dq V cz cA hP (some ⟨i0,0,none⟩) n1 su:=⟨rB.grown (ac.out.ol.below i6) hh uv uv ac.out.p2,yN (ac.out.oi.below i6) hh hV,by rw[bx,c5,<-fv];exact rv,by rw[bx];exact e1 ac.out.oi hV,by rw[bx];exact e1 ac.out.s.ord ac.out.p2⟩;have bX:=t6 b1 (u2 c5 bx);clear b1 i6 rB hV e1 rv r4 hh ke c5 bx;go_wp2_with fail;go_roundw
     case rel=>
      refine⟨(tk1 a).2,V,hP,dp,dq,cz,cA,_,n1,rfl,by rw[bX.out.2.2],?_,bX.out.1,gB.out.2.2.next oY.out n4 p2 p3 bX.out.2.1⟩;rw[gB.out.1,j1.out,bX.out.2.1,u7]
      rfl
     case measure=>simp[li];omega
   ·have hu:¬59*(ls.length:Int)< (A.length:Int):=t7;have f6:Hid (gs=(a,A,ls)):=by show gs= _;rw[f0,Ho n4]
    clear f0 dD ae;go_wp2
    go_meet
    exact⟨ck,cm,aB,aS,J,T,by rw[f6.out],by rw[f6.out],by rw[f6.out];exact gB.out.2.1,by rw[f6.out];exact gB.out.2.2⟩
 case rest=>
  obtain⟨ck,cm,aB,aS,J,T,rfl,rfl,dD,ae⟩:=hcut;obtain⟨v3,S⟩:=aa wc;subst S;have g0:Hid (R=wrZ (nPg K) h c9 E gs):=by
   show R= _;rw[hp.out,nq.out,oX.out]
   rfl
  obtain⟨⟨d2,y⟩,a6,B⟩:=gs;have kB:LsS B0 g rest rt nv na nc ab z (d2,y) ms W bE bF ck cm a6 aB aS B J T v3:=dD;have hl:LsB b9.length U (d2,y) a6 B:=ae;have bY:Hid _:=hl;have jl:Hid (∀x,Below B0 z x->Below B0 w x):=fun x hx=>(f5.out.1.mono bW.out).trans ((a7.out.1.mono (u9 bW.out f5.out.1.size)).trans hx);have cf:Hid (∀x,(∀t,t≠208->t≠176->KeepT t z x)->Blk x 35 bB [.slice d.sa K.n d.sc,.slice d.pa K.m d.pc]/\Blk x 36 sb (al h m i fr)/\Blk x 36 rb (al 0 0 0 0)):=fun x hx=>⟨(bl.out.1.below a7.out.1).keepT (hx _ uv uv),(bl.out.2.1.below a7.out.1).keepT (hx _ uv uv),(bl.out.2.2.1.below a7.out.1).keepT (hx _ uv uv)⟩;have ko:=bDr v3;have b1:=kB.below ko;clear dD ae kB hl cc I gt bg bA np mN hp nq;go_wp2_with fail;refine az (fun u=>u.cell? ⟨ab,1,none⟩=some (.int .i64 y)/\(Instr.loadAt 35 (.pointer (some ⟨bB,0,none⟩))).run prog u= .ok (.agg #[.slice d.sa K.n d.sc,.slice d.pa K.m d.pc]) u) (fun k=>decide (6<=k)) uA ?_;clear ko;generalize v3.drew=g5 at*;have cs:g5.cell? ⟨ab,1,none⟩=some (.int .i64 y)/\(Instr.loadAt 35 (.pointer (some ⟨bB,0,none⟩))).run prog g5= .ok (.agg #[.slice d.sa K.n d.sc,.slice d.pa K.m d.pc]) g5:=⟨b1.s.tk.blk.cell 1,sy (cf.out g5 b1.s.kT).1⟩;have g2:=kQ d K g5 gG.out;unfold av at g2;have bX:Hid _:=b1;clear b1;refine aj 0 cs ?_;refine aj 1 cs ?_;refine aj 2 cs ?_;refine aj 3 cs ?_;refine aM 4 (.agg #[.slice d.sa K.n d.sc,.slice d.pa K.m d.pc]) cs ?hyp4 ?_
  case hyp4=>exact fun u dE=>bo (p:= .pointer (some ⟨bB,0,none⟩)) rfl rfl dE.2
  refine ah 5 fun l f=> ?_;go_wp2_with fail;refine g2.mono ?_;rintro e b8 ⟨rfl,o9⟩;clear g2;have H:Hid _:=bX.out.below o9;have kj:b8.cell? ⟨ab,1,none⟩=some (.int .i64 y)/\(Instr.loadAt 35 (.pointer (some ⟨bB,0,none⟩))).run prog b8= .ok (.agg #[.slice d.sa K.n d.sc,.slice d.pa K.m d.pc]) b8:=⟨H.out.s.tk.blk.cell 1,sy (cf.out b8 H.out.s.kT).1⟩;clear o9 bX cs;go_wp2_with fail;refine f.out _ _ (fun _=>kj) ?_;clear f l kj;refine ah 6 fun l f=> ?_;go_wp2_with fail;refine aU f ?_ (fun bP=>absurd bP uv);clear f l;have sx:Hid _:=gG.out;generalize kX:nPg K=ol at*;by_cases hE:(ol:Int)<y
  ·have ak:Hid (R=([],(0,0,0,0),3)):=by show R= _;rw[g0.out,wrZ,BC hE]
   have f2:=(cf.out b8 H.out.s.kT).2.2;have ht:=pr;go_wp2_with (refine C2 rfl fun _ f=>bK (k:=rb) (cs:=al 0 0 0 0) f2 rfl (fe 0 0 0 0) bj rfl rfl rfl (fun x k7 fV=>f _ _ ?_));have l3:OOp B0 x (some ⟨nb,0,none⟩) 0 []:=((((bl.out.2.2.2.1.below a7.out.1).keep (H.out.s.kT _ uv uv) (H.out.s.kT _ uv uv)).keep (aw fV f2 uv) (aw fV f2 uv))).mono bW.out;have o1:Hid _:=l3;have f7:=t6 k7 (jl.out x (H.out.s.fr.trans (fV.below (by have:=f5.out.2;have:=bW.out;omega) (u9 H.out.s.gB H.out.s.fr.size))));clear k7 fV f2 l3;go_wp2_with fail;refine BB (v:= .tuple #[.slice (some ⟨nb,0,none⟩) 0 0,.agg (al 0 0 0 0).toArray,.int .i64 3]) ?_ rfl ?_
   ·exact jL results99 _ _ rb 36 (al 0 0 0 0).toArray _ rfl f7.out.1 underlying36 rfl bj rfl rfl
   ·rw[ak.out];exact⟨some ⟨nb,0,none⟩,0,rfl,f7.out.2,o1.out⟩
  ·have ak:Hid (R=(((noL E++frO B a6)++[opS])++(suO (h+1,rtZ c9,y,B.headD 0)++[opS]),(h+1,rtZ c9,y,B.headD 0),0)):=by show R= _;rw[g0.out,wrZ,BX hE]
   have rr:OOp ob b8 (some ⟨ob,0,none⟩) 0 []:=a7.out.2.1.keep (H.out.s.kT _ uv uv) (H.out.s.kT _ uv uv);have jj:Hid (WrE B0 g rest rt nv na nc ab z bB sb rb (al h m i fr) (d2,y) ms W bE bF ck cm a6 aB aS B J T b8):=H.out.toE H.out.s.kT (cf.out b8 H.out.s.kT).2.1 (cf.out b8 H.out.s.kT).2.2;have sS:y<=(ol:Int):=t7;have sP:2<=y:=bY.out.u0;have o0:Hid _:=rr;have sj:ol<=1024:=by rw[<-kX];unfold nPg;have:=gG.out;omega
   have ft:=h5.out.2.len;have kJ:=bm.out.cnt;have sN:E.length<=70000:=by
    have es:(E.length:Int)+M.length+i=an.length+(U:Int):=kJ;have hi:=dc.out.1;have ts:(U:Int)<=y:=bY.out.uL;omega
   have s3:W.length<=70000:=t7;clear rr H cf g0 ft kJ hE kX;go_upto_block 2 with fail
   obtain⟨bR,gb⟩:∃bR:World->Prop,bR=fun u=>WrE B0 g rest rt nv na nc ab z bB sb rb (al h m i fr) (d2,y) ms W bE bF ck cm a6 aB aS B J T u:=⟨_,rfl⟩;have D:Hid (∀u,bR u->WrE B0 g rest rt nv na nc ab z bB sb rb (al h m i fr) (d2,y) ms W bE bF ck cm a6 aB aS B J T u):=fun u Q=>by rw[gb]at Q;exact Q
   have C:Hid (∀u ea,bR u->Below u.1.size u ea->bR ea):=fun u ea Q hs=>by rw[gb]at Q ⊢;exact WrE.below Q hs
   have ce:Hid (∀u ea,bR u->Below B0 u ea->(∀t,157≠t->KeepT t u ea)->bR ea):=fun u ea Q hs bC=>by rw[gb]at Q ⊢;exact WrE.keep Q hs bC
   have bT:Hid (B0<=ob):=by show B0<=ob;have:=bW.out;have:=a7.out.2.2.2.2.1;have:=a7.out.2.2.2.2.2;have:=m9.out;omega
   have jk:Hid (∀u k j(v:Value),bR u->z.1.size<=k->(∃cs,Blk u 36 k cs)->bR (u.setCell ⟨k,j,none⟩ v)):=fun u k j v Q bC hs=>by rw[gb]at Q ⊢;exact WrE.setS Q bC hs jT.out j v
   have f6:Hid (bR b8):=by show bR b8;rw[gb];exact jj.out
   clear gb jj;go_cut [16] (fun h0 ag=> ∃(a:Option Addr)(c:Nat),h0= .slice a (noL E).length c/\bR ag/\OOp ob ag a c (noL E))
   case first=>
    go_wp2_with fail;go_loopw [16,23] (fun h0 h1 wr=> ∃(j:Nat)(a:Option Addr)(c:Nat)(xs:List OpK),h1= .int .i64 (j:Nat)/\j<=W.length/\h0= .slice a xs.length c/\xs=noL (E.take j)/\bR wr/\OOp ob wr a c xs) (fun _ h1 _=>W.length-(intOf h1).toNat)
    case atStart=>exact⟨0,some ⟨ob,0,none⟩,0,[],rfl,u6 _,rfl,rfl,f6.out,o0.out⟩
    case round=>
     obtain⟨j,rR,rS,xs,rfl,tx,rfl,d1,a3,bv⟩:=hrel;obtain⟨gr,S⟩:=aa wr;subst S;have s6:xs.length<=4*j:=by rw[d1];have:=sw (E.take j);rw[wv]at this;omega
     have gT:=t6 d1 (u2 a3 bv);have ft:=h5.out.2.len;by_cases dV:j<W.length
     ·have n5:(j:Int)< (W.length:Int):=t7;have hy:j<E.length:=t7;clear ft;obtain⟨G,hq,_⟩:=h5.out.2.get j hy;have hz:E.getD j .nil∈E:=bO hy;obtain⟨⟨tz,hI⟩,kZ⟩:=bm.out.each _ hz;have cv:Hid (noL (E.take (j+1))=noL (E.take j)++pwO (fI (E.getD j .nil)) (kdT (E.getD j .nil)) (bdT (E.getD j .nil))):=by
       show _= _;have e:E.take (j+1)=E.take j++[E.getD j .nil]:=by rw[AC];simp[List.getD,List.getElem?_eq_getElem hy]
       rw[e];simp[noL]
      generalize E.getD j .nil=b7 at*;obtain⟨q,cM,cV,af,he,pl⟩:=hq.top hI;have ap:=D.out gr a3;obtain⟨gi,gm,sc,ek⟩:=ap.ord.get dV;rw[cF _ _ dV,cV]at ek;obtain⟨b,n3,_⟩:=ap.st.cells af;subst n3;subst sc;have db:Hid (∀u,bR u->u.cell? ⟨g,0,none⟩=some (.slice (some ⟨b,0,none⟩) ms.length nc)/\u.cell? ⟨gi,gm+j,none⟩=some (.int .i64 (q:Nat))/\(Instr.loadAt 176 (.pointer (some ⟨b,q*6,none⟩))).run prog u= .ok (.agg (ndc (nv q) cM).toArray) u):=fun u Q=>by
       have cb:=D.out u Q;obtain⟨s8,s9,hf,hb⟩:=cb.ord.get dV;cases hf;rw[cF _ _ dV,cV]at hb;exact⟨cb.st.blk.cell 0,hb,cb.st.loadNd af⟩
      have s4:q<ms.length:=(wb.1 af).1;have bn:=t6 hI (u2 hq (u2 kZ (u2 cV (u2 he pl))));clear hq hI kZ cV af he pl ap ek hz;have hd:=bDr gr;have fo:=C.out gr _ a3 hd;have kC:=bv.below hd;clear d1 a3 bv;go_upto_region 21 with fail
      refine az (fun u=>u.cell? ⟨g,0,none⟩=some (.slice (some ⟨b,0,none⟩) ms.length nc)/\u.cell? ⟨gi,gm+j,none⟩=some (.int .i64 (q:Nat))/\(Instr.loadAt 176 (.pointer (some ⟨b,q*6,none⟩))).run prog u= .ok (.agg (ndc (nv q) cM).toArray) u) (fun k=>decide (11<=k)) uA ?_;clear hd;generalize gr.drew=dd at*;have cs:=db.out dd fo;have hZ:=bAl dd (.cells (ndc aF nd0).toArray 176);have lc:=aq dd 176 (ndc aF nd0).toArray;have kk:=db.out _ (C.out _ _ fo hZ);have bA:=t6 fo (u2 kC hZ);clear fo kC;refine au 0 cs ?_;refine au 1 cs ?_;refine au 2 cs ?_;refine au 3 cs ?_;refine au 4 cs ?_;refine au 5 cs ?_;refine au 6 cs ?_;refine au 7 cs ?_;refine au 8 cs ?_;refine aM 9 (.agg (ndc (nv q) cM).toArray) cs ?hyp9 ?_
      case hyp9=>exact fun u dE=>bo (p:= .pointer (some ⟨b,q*6,none⟩)) rfl rfl dE.2.2
      refine ah 10 fun l f=> ?_;go_wp2_with fail;refine f.out _ _ (fun _=>kk) ?_;clear f l;refine ah 11 fun l f=> ?_;refine bK (k:=dd.1.size) (cs:=ndc (nv q) cM) lc rfl (eo _ _) aD rfl rfl rfl (fun f8 a4 aA=> ?_);have ej:Below dd.1.size dd f8:=hZ.trans (aA.below t1 hZ.size);have bS:=t6 (C.out _ _ bA.out.1 ej) (u2 (bA.out.2.1.below ej) a4);have fl:f8.cell? ⟨dd.1.size,1,none⟩=some (.bool (pn b7)):=by rw[<-bn.out.2.2.2.2.2];exact a4.cell 1
      refine aU f ?_ (fun bP=>absurd bP uv);clear f l a4 aA ej hZ lc cs kk bA;generalize dd.1.size=f3 at*;go_upto_if 132 with fail
      go_cut [25] (fun rA ag=>rA= .int .i64 (kdT b7)/\ag=f8)
      case first=>
       cases bc:pn b7 with
       |true=>
        rw[bc]at fl;have gA:Hid (kdT b7=2):=by show kdT b7=2;unfold kdT;rw[bc];rfl
        clear bc;go_wp2
        go_meet
        exact⟨by rw[gA.out],rfl⟩
       |false=>
        rw[bc]at fl;have gA:Hid (kdT b7=3):=by show kdT b7=3;unfold kdT;rw[bc];rfl
        clear bc;go_wp2
        go_meet
        exact⟨by rw[gA.out],rfl⟩
      case rest=>
       obtain⟨rfl,cb⟩:=hcut;obtain rfl:=cb.symm;clear cb fl;have fn:=bDr f8;have fs:=C.out f8 _ bS.out.1 fn;have cq:=bS.out.2.1.below fn;have hM:=bS.out.2.2.below fn;generalize kdT b7=kd at*;go_wp2_with fail;refine az (fun u=>u.cell? ⟨f3,0,none⟩=some (.int .i64 cM.page)/\u.cell? ⟨gi,gm+j,none⟩=some (.int .i64 (q:Nat))) (fun k=>decide (14<=k)) uA ?_;clear fn;generalize f8.drew=h9 at*;have cs:h9.cell? ⟨f3,0,none⟩=some (.int .i64 cM.page)/\h9.cell? ⟨gi,gm+j,none⟩=some (.int .i64 (q:Nat)):=⟨hM.cell 0,(db.out h9 fs).2.1⟩;have m7:=Hk (D.out h9 fs).st bn.out.1 bn.out.2.1 (fun x hx=>by have:=bn.out.2.2.1 x hx;have hi:2<=x/\x< (U:Int):=this;omega) t7;rw[bn.out.2.2.2.1]at m7;have sV:=Hl bn.out.1;have gS:Hid (fI b7=cM.page):=bn.out.2.2.2.2.1.symm;rw[gS.out]at cv;have oV:Hid (IsB (bdT b7)):=Hm bn.out.1;generalize bdT b7=n0 at*;obtain⟨gj,eK⟩:=aa cM.page;have ju:Hid (gj=cM.page):=eK;rw[<-eK]at cs cv ⊢;clear eK;have da:=t6 fs (u2 cq hM);clear fs cq hM bS;refine aj 0 cs ?_;refine aj 1 cs ?_;refine aj 2 cs ?_;refine aj 3 cs ?_;refine aj 4 cs ?_;refine aj 5 cs ?_;refine aj 6 cs ?_;refine aj 7 cs ?_;refine ah 8 fun l f=> ?_;go_wp2_with fail;refine m7.mono ?_;rintro e h7 ⟨r6,r7,rfl,cS,gg⟩;clear m7;have km:h7.cell? ⟨f3,0,none⟩=some (.int .i64 gj)/\h7.cell? ⟨gi,gm+j,none⟩=some (.int .i64 (q:Nat)):=⟨((da.out.2.2.below cS).cell 0).trans (by rw[ju.out];rfl),(db.out h7 (C.out _ _ da.out.1 cS)).2.1⟩;have g1:=ly gj kd r6 r7 n0 h7 (gg.bs oV.out) t7;have q2:=jK gj kd n0;have h4:=t6 (C.out _ _ da.out.1 cS) (u2 (da.out.2.1.below cS) (da.out.2.2.below cS));generalize pwO gj kd n0=ps at*;clear cS gg;go_wp2_with fail;refine f.out _ _ (fun _=>km) ?_;clear f l cs;refine ah 9 fun l f=> ?_;go_wp2_with fail;refine g1.mono ?_;rintro e e7 ⟨tT,pc,rz,rfl,dk,ln⟩;clear g1;have a8:e7.cell? ⟨f3,0,none⟩=some (.int .i64 gj)/\e7.cell? ⟨gi,gm+j,none⟩=some (.int .i64 (q:Nat)):=⟨((h4.out.2.2.below dk).cell 0).trans (by rw[ju.out];rfl),(db.out e7 (C.out _ _ h4.out.1 dk)).2.1⟩;have ad:=C.out _ _ h4.out.1 dk;have ba:=h4.out.2.1.below dk;have hF:=ln.reads;have q7:ob<=e7.1.size:=by have:=(D.out _ ad).fr.size;have:=a7.out.2.2.2.2.2;omega
       have ne:Hid _:=ad;clear dk ln km ad;go_wp2_with fail;refine f.out _ _ (fun _=>a8) ?_;clear f l;refine aj 10 a8 ?_;refine aj 11 a8 ?_;refine aj 12 a8 ?_;refine ah 13 fun l f=> ?_;go_wp2_with fail;refine f.out _ _ (fun _=>a8) ?_;clear f l;refine ah 14 fun l f=> ?_;go_wp2_with fail;refine aU f ?_ (fun bP=>absurd bP uv);clear f l a8;go_wp2_with (at_builtin;refine mT ba hF t7 q7 rfl rfl rfl rfl ?_);intro r3 r8 rP gf pA ca;have cn:bR rP:=ce.out _ _ ne.out (ca.mono bT.out) (fun t bd=>by obtain⟨f9,hrow,_⟩:=ba;exact bD hrow pA bd);obtain⟨r0,fZ⟩:=aa (xs++ps);have la:r0.length=xs.length+ps.length:=by rw[fZ,u7]
       rw[<-fZ]at gf;have e6:=t6 fZ (u2 la (u2 cn gf));clear fZ la cn gf pA ca ba hF;go_wp2_with fail;go_roundw
       case rel=>exact⟨j+1,r3,r8,r0,by go_num,t7,by rw[e6.out.2.1],by rw[cv.out,e6.out.1,gT.out.1],e6.out.2.2.1,e6.out.2.2.2⟩
       case measure=>simp[intOf];omega
     ·have n5:¬(j:Int)< (W.length:Int):=t7;have p9:E.take j=E:=wC t7;have j3:Hid (xs=noL E):=by show xs= _;rw[d1,p9]
      clear p9 ft d1 a3 bv;go_wp2
      go_meet
      exact⟨rR,rS,by rw[j3.out],gT.out.2.1,by rw[<-j3.out];exact gT.out.2.2⟩
   case rest=>
    obtain⟨rR,rS,rfl,a3,bv⟩:=hcut;obtain⟨rN,S⟩:=aa wc;subst S;have n7:=sw E;obtain⟨rn,kT⟩:=aa (noL E);rw[<-kT]at bv n7 ak ⊢;clear kT;have ap:=D.out rN a3;have q0:=bY.out.ln;have kR:=bY.out.len;have s1:=bY.out.u1;have oS:=Hc rN J aB T aS B a6 ap.ol ap.oi (fun x hx=>by have:=bY.out.ls x hx;omega) (fun x hx=>by have:=bY.out.mem x hx;omega) t7 t7;have fB:=sd B a6;have bA:=t6 a3 bv;generalize frO B a6=f1 at*;clear ap a3 bv;go_wp2_with fail;refine oS.mono ?_;rintro e st ⟨sH,sI,rfl,ca,gf⟩;clear oS;have cn:=C.out _ _ bA.out.1 ca;have ho:=bA.out.2.below ca;have k1:=gf.reads;have k8:ob<=st.1.size:=by have:=(D.out _ cn).fr.size;have:=a7.out.2.2.2.2.2;omega
    have oW:Hid _:=cn;clear ca gf cn bA;go_wp2_with (at_builtin;refine mT ho k1 t7 k8 rfl rfl rfl rfl ?_);intro ti tl h3 oA pC ej;have ks:bR h3:=ce.out _ _ oW.out (ej.mono bT.out) (fun t bd=>by obtain⟨f9,hrow,_⟩:=ho;exact bD hrow pC bd);obtain⟨i5,hB⟩:=aa (rn++f1);have bx:rn.length+f1.length=i5.length:=by rw[hB,u7]
    rw[<-hB]at oA ak;rw[bx];have gn:=bAl h3 (.cells #[.int .i64 2,.int .i64 0,.slice none 0 0] 157);have q6:ob<=h3.1.size:=u9 k8 ej.size;have sT:i5.length<=400000:=t7;have bS:=t6 ks (u2 oA gn);have qa:=sE;clear bx hB oA ks pC ej ho k1 gn;have cq:=bS.out.2.1.below bS.out.2.2;have k2:=pM h3;have k9:ob<=(h3.alloc (.cells #[.int .i64 2,.int .i64 0,.slice none 0 0] 157)).1.size:=u9 q6 bS.out.2.2.size;go_wp2_with (at_builtin;refine mT cq k2 (by simp;omega) k9 rfl rfl rfl rfl ?_);intro ia ib oM gg pN cS;have kt:bR oM:=ce.out _ _ (C.out _ _ bS.out.1 bS.out.2.2) (cS.mono bT.out) (fun t bd=>by obtain⟨f9,hrow,_⟩:=cq;exact bD hrow pN bd);obtain⟨c8,hC⟩:=aa (i5++[opS]);have fD:i5.length+1=c8.length:=by rw[hC,u7];rfl
    rw[<-hC]at gg ak
    first|rw[fD]|(simp only[wQ,zP,wg];rw[fD])
    have kG:c8.length<=400001:=by rw[<-fD];omega
    have em:=bDr oM;have ad:=C.out _ _ kt em;have ba:=gg.below em;clear fD hC gg kt pN cS cq k2 k9 bS qa;go_wp2_with fail;refine az (fun u=>u.cell? ⟨sb,0,none⟩=some (.int .i64 h)/\u.cell? ⟨ab,1,none⟩=some (.int .i64 y)) (fun k=>decide (9<=k)) uA ?_;clear em;generalize oM.drew=bs at*;have gw:Hid (∀u,bR u->u.cell? ⟨sb,0,none⟩=some (.int .i64 h)/\u.cell? ⟨ab,1,none⟩=some (.int .i64 y)):=fun u Q=>⟨(D.out u Q).sb.cell 0,(D.out u Q).ab.cell 1⟩;have cs:=gw.out bs ad;have q3:IntKind.i64.wrap (h+1)=h+1:=ll _ t7 t7;have d4:=bAl bs (.cells (al 0 0 0 0).toArray 36);have hL:=aq bs 36 (al 0 0 0 0).toArray;have hc:=gw.out _ (C.out _ _ ad d4);have bg:=t6 ad (u2 ba d4);clear ad ba;refine aj 0 cs ?_;refine aj 1 cs ?_;refine aj 2 cs ?_;refine aj 3 cs ?_;refine aj 4 cs ?_;refine aj 5 cs ?_;refine aj 6 cs ?_;refine aM 7 (.agg (al (h+1) 0 y 0).toArray) cs ?hb7 ?_
    case hb7=>exact fun u _=>lm rfl (by simp only[wa,vo,v6];exact Hy (h+1) y)
    refine ah 8 fun l f=> ?_;go_wp2_with fail;refine f.out _ _ (fun _=>hc) ?_;clear f l;refine ah 9 fun l f=> ?_;refine bK (k:=bs.1.size) (cs:=al (h+1) 0 y 0) hL rfl (fe _ _ _ _) bj rfl rfl rfl (fun f8 a4 aA=> ?_);have ch:Below bs.1.size bs f8:=d4.trans (aA.below t1 d4.size);have et:=C.out _ _ bg.out.1 ch;have I:=t6 et (u2 (bg.out.2.1.below ch) a4);have tp:f8.cell? ⟨g,1,none⟩=some (.int .i64 rt):=(D.out f8 et).st.blk.cell 1;have hK:z.1.size<=bs.1.size:=(D.out _ bg.out.1).fr.size;refine aU f ?_ (fun bP=>absurd bP uv);clear f l a4 aA ch d4 hL cs hc bg et;generalize bs.1.size=X at*;clear q3;have j2:Hid _:=h5.out.1;go_upto_if 169 with fail
    go_cut [] (fun ag=>bR ag/\OOp ob ag ia ib c8/\Blk ag 36 X (al (h+1) (rtZ c9) y 0))
    case first=>
     cases c9 with
     |none=>
      obtain rfl:rt= -1:=j2.out;go_wp2
      go_meet
      exact⟨I.out.1,I.out.2.1,I.out.2.2⟩
     |some x=>
      obtain⟨so,ss⟩:=x;obtain⟨k6,tb,k4,_⟩:=j2.out;obtain⟨p,h6,cV,af,he,_⟩:=k4.top k6;subst cV;have s2:(0:Int)<=(p:Int):=t7;have ap:=D.out f8 I.out.1;obtain⟨b,n3,i1,_,q2⟩:=ap.st.cells af;subst n3;have nd:Hid (∀u,bR u->u.cell? ⟨g,0,none⟩=some (.slice (some ⟨b,0,none⟩) ms.length nc)/\u.cell? ⟨g,1,none⟩=some (.int .i64 (p:Nat))/\u.cell? ⟨b,p*6,none⟩=some (.int .i64 h6.page)):=fun u Q=>by
       have cb:=D.out u Q;obtain⟨tk,hf,hu,_,_⟩:=cb.st.cells af;cases hf;exact⟨cb.st.blk.cell 0,cb.st.blk.cell 1,hu 0 _ rfl⟩
      have gS:Hid (h6.page=rtZ (some (so,ss))):=he;clear af he ap i1 k6 k4;have cT:=bDr f8;have c0:=C.out _ _ I.out.1 cT;have hm:=I.out.2.1.below cT;have aX:=I.out.2.2.below cT;go_wp2_with fail;refine az (fun u=>u.cell? ⟨g,0,none⟩=some (.slice (some ⟨b,0,none⟩) ms.length nc)/\u.cell? ⟨g,1,none⟩=some (.int .i64 (p:Nat))/\u.cell? ⟨b,p*6,none⟩=some (.int .i64 h6.page)) (fun k=>decide (12<=k)) uA ?_;clear cT;generalize f8.drew=bu at*;have cs:=nd.out bu c0;generalize h6.page=gc at*;have fl:bu.cell? ⟨X,1,none⟩=some (.int .i64 0):=aX.cell 1;have sC:=aX.free 1;have d3:=ax bu X 1 (.int .i64 gc);have r5:Below z.1.size bu (bu.setCell ⟨X,1,none⟩ (.int .i64 gc)):=d3.below hK ((D.out _ c0).fr.size);have q9:=aX.set 1 (.int .i64 gc);have kv:bR (bu.setCell ⟨X,1,none⟩ (.int .i64 gc)):=jk.out bu X 1 (.int .i64 gc) c0 hK ⟨_,aX⟩;have kD:OOp ob (bu.setCell ⟨X,1,none⟩ (.int .i64 gc)) ia ib c8:=hm.keep (aw d3 aX uv) (aw d3 aX uv);have cc:=t6 kv (u2 kD q9);clear c0 hm aX d3 r5 q9 kv kD;refine au 0 cs ?_;refine au 1 cs ?_;refine au 2 cs ?_;refine au 3 cs ?_;refine au 4 cs ?_;refine au 5 cs ?_;refine au 6 cs ?_;refine au 7 cs ?_;refine au 8 cs ?_;refine au 9 cs ?_;refine au 10 cs ?_;refine ah 11 fun l f=> ?_;go_wp2_with fail;refine f.out _ _ (fun _=>cs) ?_;clear f l;refine ah 12 fun l f=> ?_;go_wp2_with fail;refine aU f ?_ (fun bP=>absurd bP uv);clear f l cs;go_wp2
      go_meet
      exact⟨cc.out.1,cc.out.2.1,by rw[<-gS.out];exact cc.out.2.2⟩
    case rest=>
     obtain⟨a9,b2,L⟩:=hcut;obtain⟨br,S⟩:=aa wc;subst S;generalize rtZ c9=a1 at*;obtain⟨F,hw⟩:=aa (B.headD 0);rw[<-hw]at ak;have jq:Hid _:=hw;clear hw;have e4:=t6 a9 (u2 b2 L);go_upto_if 184 with fail
     go_cut [] (fun ag=>bR ag/\OOp ob ag ia ib c8/\Blk ag 36 X (al (h+1) a1 y F))
     case first=>
      by_cases p0:0<B.length
      ·have p1:(0:Int)< (B.length:Int):=t7;obtain⟨rd,rk,hf,ek⟩:=(D.out br a9).ol.get p0;subst hf;rw[cF _ _ p0]at ek;have po:B.getD 0 0=F:=by rw[jq.out];cases B<;>rfl
       rw[po]at ek;have hb:br.cell? ⟨rd,rk,none⟩=some (.int .i64 F):=ek;have sB:br.cell? ⟨X,3,none⟩=some (.int .i64 0):=L.cell 3;have sD:=L.free 3;have d3:=ax br X 3 (.int .i64 F);have bk:Hid (bR (br.setCell ⟨X,3,none⟩ (.int .i64 F))/\OOp ob (br.setCell ⟨X,3,none⟩ (.int .i64 F)) ia ib c8/\Blk (br.setCell ⟨X,3,none⟩ (.int .i64 F)) 36 X (al (h+1) a1 y F)):=⟨jk.out br X 3 (.int .i64 F) a9 hK ⟨_,L⟩,b2.keep (aw d3 L uv) (aw d3 L uv),L.set 3 (.int .i64 F)⟩;clear po ek d3 a9 b2 L;go_wp2
       go_meet
       exact⟨bk.out.1,bk.out.2.1,bk.out.2.2⟩
      ·have p1:¬(0:Int)< (B.length:Int):=t7;have o4:Hid (F=0):=by
        show F=0;rw[jq.out,x8 (show B.length=0 by omega)]
        rfl
       clear a9 b2 L;go_wp2
       go_meet
       exact⟨e4.out.1,e4.out.2.1,by rw[o4.out];exact e4.out.2.2⟩
     case rest=>
      obtain⟨hj,hn,eN⟩:=hcut;obtain⟨g3,S⟩:=aa wc;subst S;have nw:=pS (h+1) a1 y F g3;have gY:Hid _:=ak.out;clear ak a9 b2 L e4;obtain⟨gp,fP⟩:=aa (suO (h+1,a1,y,F));have c6:kOf (bG (h+1) a1 y F)=gp.length:=by rw[fP,suO,gV]
      have sm:gp.length<=4:=by rw[<-c6];exact tK _
      have o2:Hid _:=fP;rw[<-fP]at gY;rw[c6]at nw;generalize dX:bG (h+1) a1 y F=s7 at*;have bk:=t6 hj (u2 hn eN);clear fP;go_wp2_with (refine BD rfl 36 _ rfl X rfl 36 (al (h+1) a1 y F).toArray (0,0) _ eN underlying36 rfl bj ?_);refine nw.mono ?_;rintro e e8 ⟨sp,rJ,rfl,g6,mB⟩;clear nw hj hn eN;have m0:ROp e8 sp rJ gp:=by
       have bP:=mB.rop.reads;rw[o2.out,suO,dX];rw[<-c6]at bP;exact bP
      have en:=bDr e8;have fc:Below g3.1.size g3 e8.drew:=g6.trans (en.mono g6.size);have gv:=t6 (C.out _ _ bk.out.1 fc) (u2 (bk.out.2.1.below fc) (u2 (m0.below en) (bk.out.2.2.below fc)));clear g6 mB m0 bk c6 dX en fc;go_wp2_with fail;refine az (fun u=>(Instr.loadAt 36 (.pointer (some ⟨X,0,none⟩))).run prog u= .ok (.agg (al (h+1) a1 y F).toArray) u) (fun k=>decide (8<=k)) uA ?_;generalize e8.drew=am at*;have Y:=gv;have cs:(Instr.loadAt 36 (.pointer (some ⟨X,0,none⟩))).run prog am= .ok (.agg (al (h+1) a1 y F).toArray) am:=aN Y.out.2.2.2;have eL:ob<=am.1.size:=by have:=(D.out _ Y.out.1).fr.size;have:=a7.out.2.2.2.2.2;omega
      have ak:=gY;clear gv gY;refine ai 0 cs ?_;refine ai 1 cs ?_;refine aM 3 (.agg #[.int .i64 2,.int .i64 0,.slice none 0 0]) cs ?hb3 ?_
      case hb3=>exact fun u _=>lm rfl (by simp only[wa,vo,v6];exact sE)
      refine aM 6 (.agg (al (h+1) a1 y F).toArray) cs ?hb6 ?_
      case hb6=>exact fun u dE=>bo (p:= .pointer (some ⟨X,0,none⟩)) rfl rfl dE
      refine fQ 2 4 uA rfl rfl (fun l f=> ?_) (fun l f=> ?_);rw[BC (show Region.wanted _ _=true from rfl)];refine jc Y.out.2.1 Y.out.2.2.1 t7 eL rfl rfl rfl ?_;intro o8 pa O l1 kp g7;have eU:∀t,157≠t->KeepT t am O:=fun t bd=>by obtain⟨f9,hrow,_⟩:=Y.out.2.1;exact bD hrow kp bd
      have bZ:=ce.out _ _ Y.out.1 (g7.mono bT.out) eU;have a0:=Y.out.2.2.2.keepT (eU _ uv);refine f.out _ _ (fun _=>aN a0) ?_;clear f l;obtain⟨bz,aT⟩:=aa O.1.size;obtain⟨a2,c3⟩:=aa (O.alloc (.cells #[.int .i64 2,.int .i64 0,.slice none 0 0] 157));have d6:Below O.1.size O a2:=by rw[c3];exact bAl _ _
      have e3:ROp a2 (some ⟨bz,0,none⟩) 1 [opS]:=by rw[c3,aT];exact pM O
      refine ah 4 fun l f=> ?_;refine bU _ _ _ rfl (v:= .slice (some ⟨bz,0,none⟩) 1 1) (w':=a2) ?bsA ?_
      case bsA=>
       simp only[wa,vo,v6];rw[c3,aT];exact fq pL t7 (.agg #[.int .i64 2,.int .i64 0,.slice none 0 0]) [.int .i64 2,.int .i64 0,.slice none 0 0] rfl rfl O
      have cB:=l1.below d6;have ev:=C.out _ _ bZ d6;have b5:=a0.below d6;have hJ:ob<=a2.1.size:=u9 eL (u9 g7.size d6.size);refine f.out _ _ (fun _=>aN b5) ?_;clear f l c3 aT d6 eU bZ a0 l1 kp g7
      rotate_left
      rw[BC (show Region.wanted _ _=true from rfl)];obtain⟨bz,aT⟩:=aa am.1.size;obtain⟨O,c2⟩:=aa (am.alloc (.cells #[.int .i64 2,.int .i64 0,.slice none 0 0] 157));have cD:Below am.1.size am O:=by rw[c2];exact bAl _ _
      have e2:Blk O 157 bz [.int .i64 2,.int .i64 0,.slice none 0 0]:=by rw[c2,aT];exact aq am _ _
      refine bU _ _ _ rfl (v:= .slice (some ⟨bz,0,none⟩) 1 1) (w':=O) ?bsB ?_
      case bsB=>
       simp only[wa,vo,v6];rw[c2,aT];exact fq pL t7 (.agg #[.int .i64 2,.int .i64 0,.slice none 0 0]) [.int .i64 2,.int .i64 0,.slice none 0 0] rfl rfl am
      have bZ:=C.out _ _ Y.out.1 cD;have a0:=Y.out.2.2.2.below cD;refine f.out _ _ (fun _=>aN a0) ?_;clear f l c2;have eB:=Y.out.2.1.below cD;have hG:=Y.out.2.2.1.below cD;have eM:ob<=O.1.size:=u9 eL cD.size;refine ah 2 fun l f=> ?_;refine jc eB hG t7 eM rfl rfl rfl ?_;intro o8 pa a2 cB hg g8;have eV:∀t,157≠t->KeepT t O a2:=fun t bd=>by obtain⟨f9,hrow,_⟩:=eB;exact bD hrow hg bd
      have ev:=ce.out _ _ bZ (g8.mono bT.out) eV;have b5:=a0.keepT (eV _ uv);have e3:ROp a2 (some ⟨bz,0,none⟩) 1 [opS]:=Hz ((hg.block bz e2.lt (fun e=>by obtain⟨f9,hrow,_⟩:=Y.out.2.1;have:=(BS hrow bz e.symm).2;omega)).trans e2);have hJ:ob<=a2.1.size:=u9 eM g8.size;refine f.out _ _ (fun _=>aN b5) ?_;clear f l aT cD e2 bZ a0 eB hG eM eV hg g8
      all_goals
       have n6:(c8++gp).length<=500000:=by rw[u7];omega
       obtain⟨hS,fM⟩:=aa (c8++gp);rw[<-fM]at cB n6;have kS:c8.length+gp.length=hS.length:=by rw[fM,u7]
       rw[kS];have nm:Hid _:=fM;have jh:=t6 ev (u2 cB b5);clear fM kS ev b5;refine ah 5 fun l f=> ?_;refine jc cB e3 (by simp;omega) hJ rfl rfl rfl ?_;intro fa fm kb l2 kr kg;have eW:∀t,157≠t->KeepT t a2 kb:=fun t bd=>by obtain⟨f9,hrow,_⟩:=cB;exact bD hrow kr bd
       have ex:=ce.out _ _ jh.out.1 (kg.mono bT.out) eW;have eR:=jh.out.2.2.keepT (eW _ uv);have c7:=(D.out _ ex).rb;have eq:=(D.out _ ex).fr;refine f.out _ _ (fun _=>aN eR) ?_;clear f l kr kg eW cB e3;have oT:Hid (OOp ob kb fa fm (hS++[opS])):=l2;refine ah 7 fun l f=> ?_;go_wp2_with fail;refine f.out _ _ (fun _=>aN eR) ?_;clear f l;refine ah 8 fun l f=> ?_;refine bK (k:=rb) (cs:=(al (h+1) a1 y F)) c7 rfl (fe _ _ _ _) bj rfl rfl rfl (fun e9 a4 aA=> ?_);have f7:Hid (Blk e9 36 rb (al (h+1) a1 y F)/\Below B0 w e9/\OOp ob e9 fa fm (hS++[opS])):=⟨a4,jl.out e9 (eq.trans (aA.below (by have:=f5.out.2;have:=bW.out;omega) (u9 jT.out.2.2 eq.size))),oT.out.keep (aw aA c7 uv) (aw aA c7 uv)⟩;refine ao f ?_ (fun bP=>absurd bP uv);clear f l a4 aA c7 eq ex eR l2;refine ah 9 fun l f=> ?_;go_wp2_with fail;refine aU f ?_ (fun bP=>absurd bP uv);clear f l;have eb:Hid (R.1=hS++[opS]/\R.2.1=(h+1,a1,y,F)/\R.2.2=0):=by
        show _/\_;rw[ak.out,nm.out];exact⟨by rw[vJ],rfl,rfl⟩
       go_wp2_with fail;refine BB (v:= .tuple #[.slice fa (hS.length+1) fm,.agg (al (h+1) a1 y F).toArray,.int .i64 0]) ?_ rfl ?_
       ·exact jL results99 _ _ rb 36 (al (h+1) a1 y F).toArray _ rfl f7.out.1 underlying36 rfl bj rfl rfl
       ·rw[eb.out.1,eb.out.2.1,eb.out.2.2];exact⟨fa,fm,by rw[u7];rfl,f7.out.2.1,OOp.mono f7.out.2.2 bT.out⟩
