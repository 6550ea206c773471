import Derived.Test.YtglbanolhhjjiaaGreatDoorFo44
namespace Go.Proofs.YtglbanolhhjjiaaGreatDoor
open Go.Proofs.Tryz
open Go.RowKit
set_option linter.unusedVariables false
set_option maxRecDepth 100000
set_option maxHeartbeats 32000000
structure WhF(K:DK)(gen root used fr:Int)(fs own:List Int):Prop where
 ok:aR K=true
 sup:bG gen root used fr=true
 np:used<=((nPg K:Nat):Int)
 tp:tpB K root=true
 t:∀x∈tpL K root,2<=x/\x<used
 f:∀x∈fs,2<=x/\x<used
 o:∀x∈own,2<=x/\x<used
theorem Hw{K f c a fr i g}(h:whS K f c a fr=true)(j:flT K fr=some (i,g)):WhF K f c a fr i g:=by
 unfold whS at h;simp only[wR,D1]at h;have b:=h.2;unfold iG at b;rw[j]at b;simp only[wR]at b;have k:=mW h.1.1.2;have d:=Hr b.2;have e:((a.toNat:Nat):Int)=a:=t7;rw[e]at d;exact⟨h.1.1.1,h.1.1.2,h.1.2,b.1,d.1,d.2.1,d.2.2⟩
theorem Hx(a n c u):prog.built 208 [(0,.slice a n c),(1,.int .i64 u)]=some #[.slice a n c,.int .i64 u]:=uA
theorem jL{P:Program}{c:Func}{p q r:Tmp}{b:TypeId}(h:c.results=#[.tmp q,.cell p b,.tmp r])(a:Array Value)(w:World)(g:Nat)(t:TypeId)(cs:Array Value)(d:TypeDesc){u v:Value}
 (m:a.getD p undef= .pointer (some ⟨g,0,none⟩))(k:w.heap[g]?=some (.cells cs t (0,0)))(s:P.underlying b=some d)(j:(match d with| .struct _| .array _ _=>true|_=>false)=true)(l:(P.info? b).map (·.size)=some cs.size)(n:a.getD q undef=u)(o:a.getD r undef=v):
 (results c a).run P w= .ok (.tuple #[u,.agg cs,v]) w:=by
 have e:a[p]?.getD undef= .pointer (some ⟨g,0,none⟩):=by simpa using m
 have f:a[q]?.getD undef=u:=by simpa using n
 have i:a[r]?.getD undef=v:=by simpa using o
 simp[results,h,e,f,i,asAddr,run_loadVar_row w g t b cs (0,0) d k s j l]
structure LsS(B0 g:Nat)(rest:List Value)(rt:Int)(nv:Nat->NdV)(na:Option Addr)(nc ab:Nat)(w1:World)(a:Tk)(ms:List NdK)(qs:List Int)(oa:Option Addr)(oc:Nat)(fa:Option Addr)(fc:Nat)(ids:List Int)(ia:Option Addr)(ic:Nat)(ls:List Int)(la:Option Addr)(lc:Nat)(u:World):Prop where
 s:WrS B0 g rest rt nv na nc ab w1 a ms qs oa oc fa fc u
 oi:Own1 3 w1.1.size u ia ids.length ic (on ids)
 ol:Own1 3 w1.1.size u la ls.length lc (on ls)
 p1:∀k,(Value.slice ia ids.length ic).ownBlock=some k->(Value.slice la ls.length lc).ownBlock≠some k
 p2:∀k,(Value.slice oa qs.length oc).ownBlock=some k->(Value.slice la ls.length lc).ownBlock≠some k
structure LsB(F U:Nat)(a:Tk)(ids ls:List Int):Prop where
 len:ids.length<=F
 mem:∀x∈ids,0<=x/\x< ((U+1:Nat):Int)
 fr:∀x∈a.1,2<=x/\x<a.2
 u0:2<=a.2
 u1:a.2<=(U:Int)+ls.length
 ln:59*ls.length<=F+59
 ls:∀x∈ls,0<=x/\x< (U:Int)+ls.length
 fl:a.1.length<=65536
 uL:(U:Int)<=a.2
theorem LsB.next{j U a d b ls e id}(h:LsB j U a d ls)(f:(tk1 a).1=id)(p:59*ls.length<d.length)(m:b.length<=d.length)(i:∀x∈b,x∈d)(g:e=ls++[id]):LsB j U (tk1 a).2 b e:=by
 have k:=rV a 0 h.fr h.u0;have q:=lu a;have l:=h.u1;have n:=h.len;have o:=h.fl;have c:e.length=ls.length+1:=by rw[g,v7];rfl
 refine⟨t7,fun x hx=>h.mem x (i x hx),k.2.1,by have:=h.u0;omega,by rw[c];omega,by rw[c];omega,fun x hx=> ?_,t7,by have:=h.uL;omega⟩;rw[g]at hx;rcases w4.1 hx with hx|hx
 ·have:=h.ls x hx;rw[c];omega
 ·simp at hx;subst hx;rw[<-f,c];omega
theorem LsS.below{B0 g rest rt nv na nc ab w1 a ms n l m d e b f i ls j k u o}(h:LsS B0 g rest rt nv na nc ab w1 a ms n l m d e b f i ls j k u)(c:Below u.1.size u o):LsS B0 g rest rt nv na nc ab w1 a ms n l m d e b f i ls j k o:=⟨h.s.below c,h.oi.below c,h.ol.below c,h.p1,h.p2⟩
structure WrE(B0 g:Nat)(rest:List Value)(rt:Int)(nv:Nat->NdV)(na:Option Addr)(nc ab:Nat)(w1:World)(db sb rb:Nat)(sc:List Value)(a:Tk)(ms:List NdK)(qs:List Int)(oa:Option Addr)(oc:Nat)(fa:Option Addr)(fc:Nat)(ids:List Int)(ia:Option Addr)(ic:Nat)(ls:List Int)(la:Option Addr)(lc:Nat)(u:World):Prop where
 fr:Below B0 w1 u
 st:USt B0 g rest rt u ms nv na nc
 ab:Blk u 208 ab [.slice fa a.1.length fc,.int .i64 a.2]
 sb:Blk u 36 sb sc
 rb:Blk u 36 rb (al 0 0 0 0)
 ord:R1 3 u oa qs.length oc (on qs)
 oi:R1 3 u ia ids.length ic (on ids)
 ol:R1 3 u la ls.length lc (on ls)
section
variable {B0 g:Nat} {rest:List Value} {rt:Int} {nv:Nat->NdV} {na:Option Addr} {nc ab:Nat} {w1:World} {db sb rb:Nat} {sc:List Value} {a:Tk} {ms:List NdK} {qs:List Int} {oa:Option Addr} {oc:Nat} {fa:Option Addr} {fc:Nat} {ids:List Int} {ia:Option Addr} {ic:Nat} {ls:List Int} {la:Option Addr} {lc:Nat} {u u':World}
theorem LsS.toE(h:LsS B0 g rest rt nv na nc ab w1 a ms qs oa oc fa fc ids ia ic ls la lc u)(d:∀t,t≠208->t≠176->KeepT t w1 u)(b:Blk u 36 sb sc)(c:Blk u 36 rb (al 0 0 0 0)):WrE B0 g rest rt nv na nc ab w1 db sb rb sc a ms qs oa oc fa fc ids ia ic ls la lc u:=
 ⟨h.s.fr,h.s.st,h.s.tk.blk,b,c,h.s.ord.r1 (fw _),h.oi.r1 (fw _),h.ol.r1 (fw _)⟩
theorem WrE.keep(h:WrE B0 g rest rt nv na nc ab w1 db sb rb sc a ms qs oa oc fa fc ids ia ic ls la lc u)(c:Below B0 u u')(b:∀t,157≠t->KeepT t u u'):WrE B0 g rest rt nv na nc ab w1 db sb rb sc a ms qs oa oc fa fc ids ia ic ls la lc u':=
 ⟨h.fr.trans c,⟨h.st.blk.keepT (b _ uv),cw h.st.nodes (b _ uv),fun i d=>(h.st.each i d).keep (b _ uv) (b _ uv),wa h.st.gB c.size⟩,h.ab.keepT (b _ uv),h.sb.keepT (b _ uv),h.rb.keepT (b _ uv),h.ord.keep (b _ uv),h.oi.keep (b _ uv),h.ol.keep (b _ uv)⟩
theorem WrE.below(h:WrE B0 g rest rt nv na nc ab w1 db sb rb sc a ms qs oa oc fa fc ids ia ic ls la lc u)(b:Below u.1.size u u'):WrE B0 g rest rt nv na nc ab w1 db sb rb sc a ms qs oa oc fa fc ids ia ic ls la lc u':=h.keep (b.mono h.st.gB) (fun t _=>aV b)
theorem WrE.setS(h:WrE B0 g rest rt nv na nc ab w1 db sb rb sc a ms qs oa oc fa fc ids ia ic ls la lc u){k}(f:w1.1.size<=k)(c:∃cs,Blk u 36 k cs)(l:sb<w1.1.size/\rb<w1.1.size/\B0<=w1.1.size)(j v):WrE B0 g rest rt nv na nc ab w1 db sb rb sc a ms qs oa oc fa fc ids ia ic ls la lc (u.setCell ⟨k,j,none⟩ v):=by
 obtain⟨cs,c⟩:=c;have o:=ax u k j v;have b:∀t,36≠t->KeepT t u (u.setCell ⟨k,j,none⟩ v):=fun t e=>aw o c e;exact⟨h.fr.trans (o.below t7 h.st.gB),⟨h.st.blk.keepT (b _ uv),cw h.st.nodes (b _ uv),fun i d=>(h.st.each i d).keep (b _ uv) (b _ uv),wa h.st.gB o.size⟩,h.ab.keepT (b _ uv),h.sb.only o t7,h.rb.only o t7,h.ord.keep (b _ uv),h.oi.keep (b _ uv),h.ol.keep (b _ uv)⟩
end
theorem sy{u k a b n c m e}(d:Blk u 35 k [.slice a n c,.slice b m e]):(Instr.loadAt 35 (.pointer (some ⟨k,0,none⟩))).run prog u= .ok (.agg #[.slice a n c,.slice b m e]) u:=by
 simp only[Instr.loadAt,Instr.sureAddr,CP,C0,Result.andThen];exact DP u k 35 35 #[.slice a n c,.slice b m e] (0,0) _ d underlying35 rfl gD
theorem pr:prog.built 36 []=some #[.int .i64 0,.int .i64 0,.int .i64 0,.int .i64 0]:=uA
theorem Hy(x y):prog.built 36 [(0,.int .i64 x),(2,.int .i64 y)]=some #[.int .i64 x,.int .i64 0,.int .i64 y,.int .i64 0]:=uA
theorem sE:prog.built 157 [(0,.int .i64 2)]=some #[.int .i64 2,.int .i64 0,.slice none 0 0]:=uA
theorem fe(a b c d):∀v∈al a b c d,v.oneCell'=true:=by simp[al,Value.oneCell']
theorem aN{u k a b c d}(e:Blk u 36 k (al a b c d)):(Instr.loadAt 36 (.pointer (some ⟨k,0,none⟩))).run prog u= .ok (.agg (al a b c d).toArray) u:=by
 simp only[Instr.loadAt,Instr.sureAddr,CP,C0,Result.andThen];exact DP u k 36 36 (al a b c d).toArray (0,0) _ e underlying36 rfl bj
theorem Hz{w b}(h:Blk w 157 b [.int .i64 2,.int .i64 0,.slice none 0 0]):ROp w (some ⟨b,0,none⟩) 1 [opS]:=
 ⟨fun _=>(none,0),ORow.reads (B:=0) (lL (f:=opF [opS] fun _=>(none,0)) (n:=1) h (jb _ _ _) (v6 _) t7) (jb _ _ _),fun i c=>by
  have a:i=0:=by simp at c;omega
  subst a;exact⟨jO _ _,eX⟩⟩
theorem pt(w b):ROp w (some ⟨b,0,none⟩) 0 []:=⟨fun _=>(none,0),⟨jb _ _ _,t1,v6 _,fun e=>(by cases e),fun h=>by simp at h⟩,fun i a=>by simp at a⟩
variable {B0 g:Nat} {rest:List Value} {rt:Int} {w:World} {ns:List NdK} {nv:Nat->NdV} {na:Option Addr} {nc:Nat}
theorem Ia(oK:USt B0 g rest rt w ns nv na nc){o}(oa:UO ns rt o)(kV:ns.length<=600000)(d K)(sf:RDisk w d K)(i y l fr ic f4)(dr:WhF K i y l fr ic f4)(fB:flT K fr=some (ic,f4))(i2:∀x∈pgZ o,x=0\/x∈tpL K y)(R)(p6:R=wrR (nPg K) i l o (tpL K y) ic f4):
 Calls prog 99 #[.pointer (some ⟨g,0,none⟩),av d K,.agg (al i y l fr).toArray] w fun e w'=> ∃a c,e= .returned (.tuple #[.slice a R.1.length c,.agg (al R.2.1.1 R.2.1.2.1 R.2.1.2.2.1 R.2.1.2.2.2).toArray,.int .i64 R.2.2])/\Below B0 w w'/\OOp B0 w' a c R.1:=by
 obtain⟨cP,dF⟩:=aa (w.alloc (.cells #[.slice d.sa K.n d.sc,.slice d.pa K.m d.pc] 35));obtain⟨cR,dI⟩:=aa (cP.alloc (.cells (al i y l fr).toArray 36));obtain⟨ga,dP⟩:=aa (cR.alloc (.cells (al 0 0 0 0).toArray 36));obtain⟨ac,dS⟩:=aa (ga.alloc (.cells #[] 157));have oC:Below w.1.size w cP:=by rw[dF];exact bAl _ _
 have oD:Below cP.1.size cP cR:=by rw[dI];exact bAl _ _
 have oF:Below cR.1.size cR ga:=by rw[dP];exact bAl _ _
 have oG:Below ga.1.size ga ac:=by rw[dS];exact bAl _ _
 have oN:cP.1.size=w.1.size+1:=by rw[dF];simp
 have oO:cR.1.size=w.1.size+1+1:=by rw[dI];simp[oN]
 have oR:ga.1.size=w.1.size+1+1+1:=by rw[dP];simp[oO]
 have hY:Below cR.1.size cR ac:=oF.trans (oG.mono oF.size);have hX:Below cP.1.size cP ac:=oD.trans (hY.mono oD.size);have d5:Below w.1.size w ac:=oC.trans (hX.mono oC.size);have i3:Blk ac 35 w.1.size [.slice d.sa K.n d.sc,.slice d.pa K.m d.pc]:=(by rw[dF];exact aq w _ _:Blk cP 35 w.1.size [.slice d.sa K.n d.sc,.slice d.pa K.m d.pc]).below hX;have i4:Blk ac 36 (w.1.size+1) (al i y l fr):=(by rw[dI,<-oN];exact aq cP _ _:Blk cR 36 (w.1.size+1) (al i y l fr)).below hY;have ok:Blk ac 36 (w.1.size+1+1) (al 0 0 0 0):=(by rw[dP,<-oO];exact aq cR _ _:Blk ga 36 (w.1.size+1+1) (al 0 0 0 0)).below oG;have oB:OOp w.1.size ac (some ⟨w.1.size+1+1+1,0,none⟩) 0 []:=by rw[dS,<-oR];exact mS _ _ t7
 have sv:ac.1.size=w.1.size+1+1+1+1:=by rw[dS];simp[oR]
 have rC:(prog.info? 35).map (·.size)=some (#[Value.slice d.sa K.n d.sc,Value.slice d.pa K.m d.pc]:Array Value).size:=gD;have np:Hid (∀u,Below ac.1.size ac u->RDisk u d K):=fun u S=>sf.below (d5.trans (S.mono d5.size));have m3:=oK.below d5;have bW:Hid (B0<=w.1.size):=oK.gB;have gG:Hid (K.n<=4096):=(gK dr.ok).1.2.1;have e5:Hid (1<=i/\i<=1000000000000/\2<=l/\l<=1024):=(mW dr.sup).1;have o3:Hid ((tpL K y).length<=1048576):=by
  show(tpL K y).length<=1048576;unfold tpL;split
  ·simp
  ·have:=oe (pgO ‹Option Tr›) (nPg K);have:nPg K<=1048576:=by have:=(gK dr.ok).1.2.1;unfold nPg;omega
   omega
 unfold av;go_enter func99,ntmps99;go_upto_region 2 with fail
 change Code.wp _ _ _ _ ((((w.alloc (.cells #[.slice d.sa K.n d.sc,.slice d.pa K.m d.pc] 35)).alloc (.cells (al i y l fr).toArray 36)).alloc (.cells (al 0 0 0 0).toArray 36)).alloc (.cells #[] 157));rw[<-dF,<-dI,<-dP,<-dS];obtain⟨nb,kU⟩:=aa (w.1.size+1+1+1);obtain⟨rb,k3⟩:=aa (w.1.size+1+1);obtain⟨sb,k5⟩:=aa (w.1.size+1);obtain⟨bC,kN⟩:=aa w.1.size;rw[<-kU]at oB ⊢;rw[<-k3]at ok ⊢;rw[<-k5]at i4 ⊢;rw[<-kN]at i3 ⊢;have ht:w.1.size<=bC/\bC<sb/\sb<rb/\rb<nb/\nb<ac.1.size:=t7;have f5:=t6 d5 ht;have bm:=t6 i3 (vk i4 (vk ok (vk oB m3)));have pg:ac.cell? ⟨sb,1,none⟩=some (.int .i64 y):=i4.cell 1;have nx:=wY d K y ac (np.out _ t2);clear dF dI dP dS oC oD oF oG oN oO oR sv hY hX d5 kU k3 k5 kN oB ok i4 m3 oK ht;unfold av at nx;go_wp2_with (refine B3 rfl 35 _ rfl bC rfl 35 #[.slice d.sa K.n d.sc,.slice d.pa K.m d.pc] (0,0) _ i3 underlying35 rfl rC ?_);refine nx.mono ?_;rintro e rO ⟨kc,kn,rfl,g9,rs⟩;have lb:=bm.out.1.below g9;have le:=bm.out.2.1.below g9;have m8:=yj d K i y l fr rO (np.out rO g9);unfold av at m8;have bB:=t6 g9 rs;clear g9 rs nx pg i3;go_wp2_with (first|(refine B3 rfl 35 _ rfl bC rfl 35 #[.slice d.sa K.n d.sc,.slice d.pa K.m d.pc] (0,0) _ lb underlying35 rfl rC ?_)|(refine B3 rfl 36 _ rfl sb rfl 36 (al i y l fr).toArray (0,0) _ le underlying36 rfl bj ?_));refine m8.mono ?_;rintro e bg ⟨ca,ap,b6,rz,cW,cX,rQ,wc,rfl,md,mp,hv,hD,dX⟩;clear m8 lb le;have qc:ap=ic/\b6=f4/\rz=true:=by
  rcases dX with⟨es,hi⟩|⟨es,_⟩
  ·rw[fB]at es;cases es;exact⟨rfl,rfl,hi⟩
  ·rw[fB]at es;cases es
 obtain⟨rfl,rfl,rfl⟩:=qc;have dl:Below ac.1.size ac bg:=bB.out.1.trans (ca.mono bB.out.1.size);have lf:=bm.out.2.1.below dl;have pk:bg.cell? ⟨sb,2,none⟩=some (.int .i64 l):=lf.cell 2;have qb:=Hx cW ap.length cX l;obtain⟨ef,dU⟩:=aa (bg.alloc (.cells #[.slice cW ap.length cX,.int .i64 l] 208));obtain⟨A,cr⟩:=aa (ef.alloc (.cells #[] 157));have oI:Below bg.1.size bg ef:=by rw[dU];exact bAl _ _
 have gn:Below ef.1.size ef A:=by rw[cr];exact bAl _ _
 have d7:Below bg.1.size bg A:=oI.trans (gn.mono oI.size);have fd:Below ac.1.size ac A:=dl.trans (d7.mono dl.size);have jd:ef.1.size=bg.1.size+1:=by rw[dU];simp
 obtain⟨ob,dW⟩:=aa (bg.1.size+1);obtain⟨ab,hr⟩:=aa bg.1.size;have m4:TkSt A A ab (ap,l) cW cX:=⟨(by rw[hr];exact(by rw[dU];exact aq bg _ _:Blk ef 208 bg.1.size [.slice cW ap.length cX,.int .i64 l]).below gn),(md.r1 (fw _)).below d7⟩;have hU:OOp ob A (some ⟨ob,0,none⟩) 0 []:=by rw[dW,cr,<-jd];exact mS _ _ t1
 have q8:Blk A 157 ob []:=by rw[dW,cr,<-jd];exact aq ef _ _
 have rW:A.1.size=ob+1:=by rw[dW,cr];simp[jd]
 have od:w.1.size<=ab:=by have:=f5.out.1.size;have:=dl.size;omega
 have h2:=bm.out.2.2.2.2.below fd;have m1:R1 3 A kc (tpL K y).length kn (on (tpL K y)):=((bB.out.2.r1 (fw _)).below ca).below d7;have m2:R1 3 A rQ b6.length wc (on b6):=(mp.r1 (fw _)).below d7;have qf:=bW.out;have jT:Hid (sb<A.1.size/\rb<A.1.size/\B0<=A.1.size):=by show _/\_;have:=f5.out.2;have:=fd.size;omega
 have m9:Hid (ab<ob):=by show ab<ob;omega
 have g1:=Hu h2 oa kV (ap,l) m4 t7 (by show 0<=l;have:=e5.out;omega) (by show l<=1024;have:=e5.out;omega) (by show ap.length<=65536;omega);have ha:A.cell? ⟨g,1,none⟩=some (.int .i64 rt):=h2.blk.cell 1;have a8:=t6 fd (vk hU (vk m1 (vk m2 (vk od rW))));have bn:Hid _:=Ht (N:=600000) oa (fun x hx=>by rcases i2 x hx with h|h;exact vR h;exact vJ (dr.t x h)) dr.f (by have:=e5.out;omega) kV;have dc:=t6 hv (vk hD (vk dr.t dr.o));have hp:Hid _:=p6;rw[wrR]at hp;generalize tpL K y=mm at*;clear ca md mp hv hD dX dl lf oI gn d7 fd m4 hU q8 rW h2 m1 m2 dr i2 oa fB p6 qf;go_upto_region 6 with fail
 change Code.wp _ _ _ _ ((bg.alloc (.cells #[.slice cW ap.length cX,.int .i64 l] 208)).alloc (.cells #[] 157));rw[<-dU,<-cr,<-dW,<-hr];clear dU cr jd dW hr pk qb;go_wp2_with fail;refine g1.mono ?_;rintro e u ⟨ms,X,bF,bP,cj,cl,P,rfl,p7,q1,kF,p5⟩;clear g1 ha;generalize plO o (ap,l)=r at*;obtain⟨c9,o7,F⟩:=r;have sg:ms.length<=600000:=t7;clear q1;have fz:WrS B0 g rest rt nv na nc ab A o7 ms X bF bP cj cl u:=p7;have eC:UO ms rt c9:=kF;have kE:OrdR ms P X F:=p5;clear p7 kF p5;obtain⟨O,nB⟩:=o7;have s0:l<=nB:=bn.out.lo;have sX:nB<=l+600000:=by have:=bn.out.hi;simpa using this
 have s5:=e5.out;obtain⟨U,rfl⟩:=xP (show 0<=nB by omega);have tt:U<=601024:=t7;have pb:u.cell? ⟨ab,1,none⟩=some (.int .i64 (U:Nat)):=fz.tk.blk.cell 1;have r1:(Instr.makeSlice 111 (.int .i64 ((U:Int)+1)) (.int .i64 ((U:Int)+1))).run prog u= .ok (.slice (some ⟨u.1.size,0,none⟩) (U+1) (U+1)) (u.alloc (.cells (madeCells #[.bool false] (U+1)) 4)):=jG (U+1) t7 u;have mN:=bAl u (.cells (madeCells #[.bool false] (U+1)) 4);have hQ:=jH 0 (U+1) t7 u (v6 _);have c1:=fz.below mN;have o6:=Hv c1.st eC t7 (N:=U+1) t7 hQ (fun x hx=>by have:=bn.out.pgs x hx;show 0<x/\x< ((U+1:Nat):Int);have hi:2<=x/\x< (U:Int):=this;omega);have ha:(u.alloc (.cells (madeCells #[.bool false] (U+1)) 4)).cell? ⟨g,1,none⟩=some (.int .i64 rt):=c1.st.blk.cell 1;have oc:A.1.size<=u.1.size:=fz.fr.size;obtain⟨_,r9,kH⟩:=hQ.blk;have bk:=t6 c1 kH;have h5:=t6 eC kE;clear fz hQ c1 eC kE kH;go_upto_region 8 with fail
 generalize u.alloc (.cells (madeCells #[.bool false] (U+1)) 4)=sA at*;generalize u.1.size=mb at*;clear r1 pb;go_wp2_with fail;refine o6.mono ?_;rintro e m5 ⟨rfl,lo,lk⟩;clear o6 ha;have n2:=bDr m5;have bc:=((bk.out.1.onlyT lo bk.out.2 oc uv uv uv).below n2);have hR:=lk.below n2;clear lo lk;go_wp2_with fail;refine az (fun u=>u.cell? ⟨ab,0,none⟩=some (.slice cj O.length cl)/\u.cell? ⟨ab,1,none⟩=some (.int .i64 (U:Nat))) (fun k=>decide (12<=k)) uA ?_;clear n2;generalize m5.drew=r2 at*;have cs:r2.cell? ⟨ab,0,none⟩=some (.slice cj O.length cl)/\r2.cell? ⟨ab,1,none⟩=some (.int .i64 (U:Nat)):=⟨bc.tk.blk.cell 0,bc.tk.blk.cell 1⟩;have kI:=bc.kT 3 uv uv;have kA:∀x∈O,2<=x/\x< (U:Int):=bn.out.fr;have qP:O.length<=65536:=wa bn.out.fl dc.out.1;have ka:=Ha r2 cj kc rQ cl kn wc 0 mb (U+1) O mm (pgZ c9) b6 t7 (bc.tk.row.keep kI) (a8.out.2.2.1.keep kI) (a8.out.2.2.2.1.keep kI) hR (fun x hx=>by have:=kA x hx;omega) (fun x hx=>by have:=dc.out.2.2.1 x hx;omega) (fun x hx=>by have:=dc.out.2.2.2 x hx;omega) t7 o3.out (by have:=dc.out.2.1;omega);have gt:Hid _:=bc;clear kI kA bc hR;refine aj 0 cs ?_;refine aj 1 cs ?_;refine aj 2 cs ?_;refine aj 3 cs ?_;refine aj 4 cs ?_;refine aj 5 cs ?_;refine aj 6 cs ?_;refine aj 7 cs ?_;refine aj 8 cs ?_;refine aj 9 cs ?_;refine aj 10 cs ?_;refine aj 11 cs ?_;refine ah 12 fun m f=> ?_;go_wp2_with fail;refine ka.mono ?_;rintro e cL ⟨b3,b4,rfl,ch,hT⟩;clear ka;obtain⟨b9,ds⟩:=aa (mkd (idS O mm (pgZ c9) b6) (U+1));rw[<-ds]at hT ⊢;have sM:b9.length<=U+1:=by rw[ds];exact oe _ _
 have p4:∀x∈b9,0<=x/\x< ((U+1:Nat):Int):=by rw[ds];exact fun x hx=>Hq hx
 have oX:Hid _:=ds;have J:=t6 (gt.out.below ch) (hT.mono gt.out.fr.size);clear ch hT ds cs;go_wp2_with fail;refine ao f ?_ (fun h=>absurd h uv);clear f m;refine ah 13 fun m f=> ?_;go_wp2_with fail;refine aU f ?_ (fun h=>absurd h uv);clear f m;obtain⟨g4,c4⟩:=aa (cL.alloc (.cells #[] 3));have hW:Below cL.1.size cL g4:=by rw[c4];exact bAl _ _
 have lt:Own1 3 A.1.size g4 (some ⟨cL.1.size,0,none⟩) 0 0 []:=by rw[c4];exact fU _ _ _ J.out.1.fr.size
 have cc:Hid (LsS B0 g rest rt nv na nc ab A (O,(U:Int)) ms X bF bP cj cl b9 b3 b4 [] (some ⟨cL.1.size,0,none⟩) 0 g4):=⟨J.out.1.below hW,J.out.2.below hW,lt,fun k bE e=>by
  have:=(B5 J.out.2 k bE).2;simp[Value.ownBlock]at e;omega,fun k bE e=>by
  have:=(B5 J.out.1.ord k bE).2;simp[Value.ownBlock]at e;omega⟩
 obtain⟨gs,q4⟩:=aa (lsL b9.length (O,(U:Int)) b9 []);have nq:Hid _:=q4;clear hW lt q4;go_upto_block 0 with fail
 rw[<-c4];clear c4;generalize qs:cL.1.size=ty at*;clear qs;go_cut [19,20] (fun d8 d9 ak=> ∃(cW:Option Addr)(cX:Nat)(b3:Option Addr)(b4:Nat)(hN:Option Addr)(hO:Nat),d8= .slice b3 gs.2.1.length b4/\d9= .slice hN gs.2.2.length hO/\LsS B0 g rest rt nv na nc ab A gs.1 ms X bF bP cW cX gs.2.1 b3 b4 gs.2.2 hN hO ak/\LsB b9.length U gs.1 gs.2.1 gs.2.2)
 case first=>
  go_wp2_with fail;go_loopw [19,20] (fun d8 d9 wr=> ∃(a:Tk)(B ls:List Int)(cW:Option Addr)(cX:Nat)(b3:Option Addr)(b4:Nat)(hN:Option Addr)(hO:Nat),d8= .slice b3 B.length b4/\d9= .slice hN ls.length hO/\gs=lsL (b9.length-ls.length) a B ls/\LsS B0 g rest rt nv na nc ab A a ms X bF bP cW cX B b3 b4 ls hN hO wr/\LsB b9.length U a B ls) (fun _ d9 _=>20000-li d9)
  case atStart=>exact⟨(O,(U:Int)),b9,[],cj,cl,b3,b4,_,0,rfl,rfl,nq.out,cc.out,⟨t1,p4,bn.out.fr,by show 2<=(U:Int);omega,by show(U:Int)<=_;simp,uB,uB,qP,A2 _⟩⟩
  case round=>
   obtain⟨a,B,ls,ck,cm,aS,aT,L,V,rfl,rfl,f0,dD,af⟩:=hrel;obtain⟨gr,T⟩:=aa wr;subst T;have kR:=af.len;have q0:=af.ln;have gB:=t6 f0 (vk dD af);by_cases n4:59*ls.length<B.length
   ·have hu:59*(ls.length:Int)< (B.length:Int):=t7;have o5:=yz dD.s.tk (dD.s.kT _ uv uv) (by have:=af.fl;omega) (by have:=af.u0;omega) (by have:=af.u1;omega);have cv:=Hp (a:=a) n4 kR;have j1:Hid _:=cv;generalize kP:(tk1 a).1=id at*;have oY:Hid _:=kP;clear cv kP f0 dD af;go_wp2_with fail;refine o5.mono ?_;rintro e v1 ⟨rfl,op,dp,dq,rL⟩;clear o5;have b0:=gB.out.2.1;have oj:∀t,208≠t->KeepT t gr v1:=fun t bf=>aw op b0.s.tk.blk bf;have hk:LsS B0 g rest rt nv na nc ab A (tk1 a).2 ms X bF bP dp dq B aS aT ls L V v1:=⟨b0.s.onlyA op rL,b0.oi.keep (oj _ uv),b0.ol.keep (oj _ uv),b0.p1,b0.p2⟩;have cg:Hid _:=hk;obtain⟨W,a6⟩:=aa (if lw a then wol id B else B);rw[<-a6]at j1;have js:Hid _:=a6;have p2:W.length<=B.length:=by
     rw[a6];split
     ·exact yE _ _
     ·exact t1
    have p3:∀x∈W,x∈B:=by
     rw[a6];split
     ·exact fun x hx=>(List.mem_filter.1 hx).1
     ·exact fun x hx=>hx
    have h8:=G8 v1 aS aT B id (hk.oi.r1 (fw _)) t7;generalize hH:lw a=sr at*;clear op rL b0 oj hk a6;go_upto_if 98 with fail
    go_cut [19] (fun d8 ak=> ∃b3 b4,d8= .slice b3 W.length b4/\LsS B0 g rest rt nv na nc ab A (tk1 a).2 ms X bF bP dp dq W b3 b4 ls L V ak)
    case first=>
     cases sr with
     |false=>
      have ag:Hid (W=B):=js.out;clear h8 hH;go_wp2
      go_meet
      exact⟨aS,aT,by rw[ag.out],by rw[ag.out];exact cg.out⟩
     |true=>
      have ag:Hid (W=wol id B):=js.out;clear hH;go_wp2_with fail;refine h8.mono ?_;rintro e v2 ⟨cz,cA,rfl,nT,ox⟩;clear h8;have cp:LsS B0 g rest rt nv na nc ab A (tk1 a).2 ms X bF bP dp dq (wol id B) cz cA ls L V v2:=⟨cg.out.s.below nT,ox.mono cg.out.s.fr.size,cg.out.ol.below nT,fun k bE e=>by
       have es:=(B5 ox k bE).1;have hi:=(B5 cg.out.ol k e).2;omega,cg.out.p2⟩
      have ad:Hid _:=cp;clear nT ox cp;go_wp2
      go_meet
      exact⟨cz,cA,by rw[ag.out],by rw[ag.out];exact ad.out⟩
    case rest=>
     obtain⟨cz,cA,rfl,cp⟩:=hcut;obtain⟨v2,T⟩:=aa wc;subst T;have ad:Hid _:=cp;have q5:=cp.s.fr.size;clear cp h8 hH;go_wp2_with (at_builtin;refine DI rfl fun _ f=>je _ _ co rfl A.1.size L ls.length V (on ls) rfl ad.out.ol (.int .i64 id) rfl rfl t7 t7 q5 (fun i0 n1 su rv r4 hh ke=>f _ _ ?_));have i6:=bAl v2 (.cells #[.int .i64 id] 3);have rB:=ad.out.s.below i6;have hV:∀k,(Value.slice cz W.length cA).ownBlock=some k->(Value.slice L ls.length V).ownBlock≠some k:=ad.out.p1;have e1:∀{v:Value}{n:Nat}{xs:List Value}{s:Nat},v2.ownsRow A.1.size 3 s v n xs->(∀k,v.ownBlock=some k->(Value.slice L ls.length V).ownBlock≠some k)->∀k,v.ownBlock=some k->(Value.slice (some ⟨i0,0,none⟩) (ls.length+1) n1).ownBlock≠some k:=fun sn i2 k bE e=>by
      have dV:=(B5 sn k bE).2;have sa:i0=k:=by simpa [Value.ownBlock]using e
      rcases ke with cV|cV
      ·refine i2 k bE ?_;have ag:L=some ⟨i0,0,none⟩:=cV;rw[ag,<-sa];simp[Value.ownBlock]
      ·omega
     obtain⟨hP,c5⟩:=aa (ls++[id]);have bz:hP.length=ls.length+1:=by rw[c5,v7];rfl
     have b1:LsS B0 g rest rt nv na nc ab A (tk1 a).2 ms X bF bP dp dq W cz cA hP (some ⟨i0,0,none⟩) n1 su:=⟨rB.grown (ad.out.ol.below i6) hh uv uv ad.out.p2,yN (ad.out.oi.below i6) hh hV,by rw[bz,c5,<-fv];exact rv,by rw[bz];exact e1 ad.out.oi hV,by rw[bz];exact e1 ad.out.s.ord ad.out.p2⟩;have bX:=t6 b1 (vk c5 bz);clear b1 i6 rB hV e1 rv r4 hh ke c5 bz;go_wp2_with fail;go_roundw
     case rel=>
      refine⟨(tk1 a).2,W,hP,dp,dq,cz,cA,_,n1,rfl,by rw[bX.out.2.2],?_,bX.out.1,gB.out.2.2.next oY.out n4 p2 p3 bX.out.2.1⟩;rw[gB.out.1,j1.out,bX.out.2.1,v7]
      rfl
     case measure=>simp[li];omega
   ·have hu:¬59*(ls.length:Int)< (B.length:Int):=t7;have f6:Hid (gs=(a,B,ls)):=by show gs= _;rw[f0,Ho n4]
    clear f0 dD af;go_wp2
    go_meet
    exact⟨ck,cm,aS,aT,L,V,by rw[f6.out],by rw[f6.out],by rw[f6.out];exact gB.out.2.1,by rw[f6.out];exact gB.out.2.2⟩
 case rest=>
  obtain⟨ck,cm,aS,aT,L,V,rfl,rfl,dD,af⟩:=hcut;obtain⟨v3,T⟩:=aa wc;subst T;have g0:Hid (R=wrZ (nPg K) i c9 F gs):=by
   show R= _;rw[hp.out,nq.out,oX.out]
   rfl
  obtain⟨⟨d2,z⟩,a7,C⟩:=gs;have kB:LsS B0 g rest rt nv na nc ab A (d2,z) ms X bF bP ck cm a7 aS aT C L V v3:=dD;have hl:LsB b9.length U (d2,z) a7 C:=af;have bY:Hid _:=hl;have jl:Hid (∀x,Below B0 A x->Below B0 w x):=fun x hx=>(f5.out.1.mono bW.out).trans ((a8.out.1.mono (wa bW.out f5.out.1.size)).trans hx);have cf:Hid (∀x,(∀t,t≠208->t≠176->KeepT t A x)->Blk x 35 bC [.slice d.sa K.n d.sc,.slice d.pa K.m d.pc]/\Blk x 36 sb (al i y l fr)/\Blk x 36 rb (al 0 0 0 0)):=fun x hx=>⟨(bm.out.1.below a8.out.1).keepT (hx _ uv uv),(bm.out.2.1.below a8.out.1).keepT (hx _ uv uv),(bm.out.2.2.1.below a8.out.1).keepT (hx _ uv uv)⟩;have ko:=bDr v3;have b1:=kB.below ko;clear dD af kB hl cc J gt bk bB np mN hp nq;go_wp2_with fail;refine az (fun u=>u.cell? ⟨ab,1,none⟩=some (.int .i64 z)/\(Instr.loadAt 35 (.pointer (some ⟨bC,0,none⟩))).run prog u= .ok (.agg #[.slice d.sa K.n d.sc,.slice d.pa K.m d.pc]) u) (fun k=>decide (6<=k)) uA ?_;clear ko;generalize v3.drew=g5 at*;have cs:g5.cell? ⟨ab,1,none⟩=some (.int .i64 z)/\(Instr.loadAt 35 (.pointer (some ⟨bC,0,none⟩))).run prog g5= .ok (.agg #[.slice d.sa K.n d.sc,.slice d.pa K.m d.pc]) g5:=⟨b1.s.tk.blk.cell 1,sy (cf.out g5 b1.s.kT).1⟩;have g2:=kQ d K g5 gG.out;unfold av at g2;have bX:Hid _:=b1;clear b1;refine aj 0 cs ?_;refine aj 1 cs ?_;refine aj 2 cs ?_;refine aj 3 cs ?_;refine aM 4 (.agg #[.slice d.sa K.n d.sc,.slice d.pa K.m d.pc]) cs ?hyp4 ?_
  case hyp4=>exact fun u dE=>bo (p:= .pointer (some ⟨bC,0,none⟩)) rfl rfl dE.2
  refine ah 5 fun m f=> ?_;go_wp2_with fail;refine g2.mono ?_;rintro e b8 ⟨rfl,o9⟩;clear g2;have I:Hid _:=bX.out.below o9;have kj:b8.cell? ⟨ab,1,none⟩=some (.int .i64 z)/\(Instr.loadAt 35 (.pointer (some ⟨bC,0,none⟩))).run prog b8= .ok (.agg #[.slice d.sa K.n d.sc,.slice d.pa K.m d.pc]) b8:=⟨I.out.s.tk.blk.cell 1,sy (cf.out b8 I.out.s.kT).1⟩;clear o9 bX cs;go_wp2_with fail;refine f.out _ _ (fun _=>kj) ?_;clear f m kj;refine ah 6 fun m f=> ?_;go_wp2_with fail;refine aU f ?_ (fun h=>absurd h uv);clear f m;have sx:Hid _:=gG.out;generalize kX:nPg K=ol at*;by_cases hE:(ol:Int)<z
  ·have am:Hid (R=([],(0,0,0,0),3)):=by show R= _;rw[g0.out,wrZ,B2 hE]
   have f2:=(cf.out b8 I.out.s.kT).2.2;have ht:=pr;go_wp2_with (refine DI rfl fun _ f=>bK (k:=rb) (cs:=al 0 0 0 0) f2 rfl (fe 0 0 0 0) bj rfl rfl rfl (fun x k7 fV=>f _ _ ?_));have l3:OOp B0 x (some ⟨nb,0,none⟩) 0 []:=((((bm.out.2.2.2.1.below a8.out.1).keep (I.out.s.kT _ uv uv) (I.out.s.kT _ uv uv)).keep (aw fV f2 uv) (aw fV f2 uv))).mono bW.out;have o1:Hid _:=l3;have f7:=t6 k7 (jl.out x (I.out.s.fr.trans (fV.below (by have:=f5.out.2;have:=bW.out;omega) (wa I.out.s.gB I.out.s.fr.size))));clear k7 fV f2 l3;go_wp2_with fail;refine B1 (v:= .tuple #[.slice (some ⟨nb,0,none⟩) 0 0,.agg (al 0 0 0 0).toArray,.int .i64 3]) ?_ rfl ?_
   ·exact jL results99 _ _ rb 36 (al 0 0 0 0).toArray _ rfl f7.out.1 underlying36 rfl bj rfl rfl
   ·rw[am.out];exact⟨some ⟨nb,0,none⟩,0,rfl,f7.out.2,o1.out⟩
  ·have am:Hid (R=(((noL F++frO C a7)++[opS])++(suO (i+1,rtZ c9,z,C.headD 0)++[opS]),(i+1,rtZ c9,z,C.headD 0),0)):=by show R= _;rw[g0.out,wrZ,Ct hE]
   have rr:OOp ob b8 (some ⟨ob,0,none⟩) 0 []:=a8.out.2.1.keep (I.out.s.kT _ uv uv) (I.out.s.kT _ uv uv);have jj:Hid (WrE B0 g rest rt nv na nc ab A bC sb rb (al i y l fr) (d2,z) ms X bF bP ck cm a7 aS aT C L V b8):=I.out.toE I.out.s.kT (cf.out b8 I.out.s.kT).2.1 (cf.out b8 I.out.s.kT).2.2;have sS:z<=(ol:Int):=t7;have sP:2<=z:=bY.out.u0;have o0:Hid _:=rr;have sj:ol<=1024:=by rw[<-kX];unfold nPg;have:=gG.out;omega
   have ft:=h5.out.2.len;have kJ:=bn.out.cnt;have sN:F.length<=70000:=by
    have es:(F.length:Int)+O.length+l=ap.length+(U:Int):=kJ;have hi:=dc.out.1;have ts:(U:Int)<=z:=bY.out.uL;omega
   have s3:X.length<=70000:=t7;clear rr I cf g0 ft kJ hE kX;go_upto_block 2 with fail
   obtain⟨bR,gb⟩:∃bR:World->Prop,bR=fun u=>WrE B0 g rest rt nv na nc ab A bC sb rb (al i y l fr) (d2,z) ms X bF bP ck cm a7 aS aT C L V u:=⟨_,rfl⟩;have E:Hid (∀u,bR u->WrE B0 g rest rt nv na nc ab A bC sb rb (al i y l fr) (d2,z) ms X bF bP ck cm a7 aS aT C L V u):=fun u S=>by rw[gb]at S;exact S
   have D:Hid (∀u ea,bR u->Below u.1.size u ea->bR ea):=fun u ea S hs=>by rw[gb]at S ⊢;exact WrE.below S hs
   have ce:Hid (∀u ea,bR u->Below B0 u ea->(∀t,157≠t->KeepT t u ea)->bR ea):=fun u ea S hs bE=>by rw[gb]at S ⊢;exact WrE.keep S hs bE
   have bT:Hid (B0<=ob):=by show B0<=ob;have:=bW.out;have:=a8.out.2.2.2.2.1;have:=a8.out.2.2.2.2.2;have:=m9.out;omega
   have jk:Hid (∀u k j(v:Value),bR u->A.1.size<=k->(∃cs,Blk u 36 k cs)->bR (u.setCell ⟨k,j,none⟩ v)):=fun u k j v S bE hs=>by rw[gb]at S ⊢;exact WrE.setS S bE hs jT.out j v
   have f6:Hid (bR b8):=by show bR b8;rw[gb];exact jj.out
   clear gb jj;go_cut [16] (fun h0 ak=> ∃(a:Option Addr)(c:Nat),h0= .slice a (noL F).length c/\bR ak/\OOp ob ak a c (noL F))
   case first=>
    go_wp2_with fail;go_loopw [16,23] (fun h0 h1 wr=> ∃(j:Nat)(a:Option Addr)(c:Nat)(xs:List OpK),h1= .int .i64 (j:Nat)/\j<=X.length/\h0= .slice a xs.length c/\xs=noL (F.take j)/\bR wr/\OOp ob wr a c xs) (fun _ h1 _=>X.length-(intOf h1).toNat)
    case atStart=>exact⟨0,some ⟨ob,0,none⟩,0,[],rfl,v6 _,rfl,rfl,f6.out,o0.out⟩
    case round=>
     obtain⟨j,rR,rS,xs,rfl,tx,rfl,d1,a4,bx⟩:=hrel;obtain⟨gr,T⟩:=aa wr;subst T;have s6:xs.length<=4*j:=by rw[d1];have:=sw (F.take j);rw[wP]at this;omega
     have gT:=t6 d1 (vk a4 bx);have ft:=h5.out.2.len;by_cases dV:j<X.length
     ·have n5:(j:Int)< (X.length:Int):=t7;have hy:j<F.length:=t7;clear ft;obtain⟨G,hq,_⟩:=h5.out.2.get j hy;have hz:F.getD j .nil∈F:=bO hy;obtain⟨⟨tz,hI⟩,kZ⟩:=bn.out.each _ hz;have cv:Hid (noL (F.take (j+1))=noL (F.take j)++pwO (fI (F.getD j .nil)) (kdT (F.getD j .nil)) (bdT (F.getD j .nil))):=by
       show _= _;have e:F.take (j+1)=F.take j++[F.getD j .nil]:=by rw[A4];simp[List.getD,List.getElem?_eq_getElem hy]
       rw[e];simp[noL]
      generalize F.getD j .nil=b7 at*;obtain⟨q,cM,cV,ag,he,pl⟩:=hq.top hI;have aA:=E.out gr a4;obtain⟨gi,gm,sc,ek⟩:=aA.ord.get dV;rw[cF _ _ dV,cV]at ek;obtain⟨b,n3,_⟩:=aA.st.cells ag;subst n3;subst sc;have db:Hid (∀u,bR u->u.cell? ⟨g,0,none⟩=some (.slice (some ⟨b,0,none⟩) ms.length nc)/\u.cell? ⟨gi,gm+j,none⟩=some (.int .i64 (q:Nat))/\(Instr.loadAt 176 (.pointer (some ⟨b,q*6,none⟩))).run prog u= .ok (.agg (ndc (nv q) cM).toArray) u):=fun u S=>by
       have cb:=E.out u S;obtain⟨s8,s9,hf,hb⟩:=cb.ord.get dV;cases hf;rw[cF _ _ dV,cV]at hb;exact⟨cb.st.blk.cell 0,hb,cb.st.loadNd ag⟩
      have s4:q<ms.length:=(wA.1 ag).1;have br:=t6 hI (vk hq (vk kZ (vk cV (vk he pl))));clear hq hI kZ cV ag he pl aA ek hz;have hd:=bDr gr;have fo:=D.out gr _ a4 hd;have kC:=bx.below hd;clear d1 a4 bx;go_upto_region 21 with fail
      refine az (fun u=>u.cell? ⟨g,0,none⟩=some (.slice (some ⟨b,0,none⟩) ms.length nc)/\u.cell? ⟨gi,gm+j,none⟩=some (.int .i64 (q:Nat))/\(Instr.loadAt 176 (.pointer (some ⟨b,q*6,none⟩))).run prog u= .ok (.agg (ndc (nv q) cM).toArray) u) (fun k=>decide (11<=k)) uA ?_;clear hd;generalize gr.drew=dd at*;have cs:=db.out dd fo;have hZ:=bAl dd (.cells (ndc aF nd0).toArray 176);have lc:=aq dd 176 (ndc aF nd0).toArray;have kk:=db.out _ (D.out _ _ fo hZ);have bB:=t6 fo (vk kC hZ);clear fo kC;refine au 0 cs ?_;refine au 1 cs ?_;refine au 2 cs ?_;refine au 3 cs ?_;refine au 4 cs ?_;refine au 5 cs ?_;refine au 6 cs ?_;refine au 7 cs ?_;refine au 8 cs ?_;refine aM 9 (.agg (ndc (nv q) cM).toArray) cs ?hyp9 ?_
      case hyp9=>exact fun u dE=>bo (p:= .pointer (some ⟨b,q*6,none⟩)) rfl rfl dE.2.2
      refine ah 10 fun m f=> ?_;go_wp2_with fail;refine f.out _ _ (fun _=>kk) ?_;clear f m;refine ah 11 fun m f=> ?_;refine bK (k:=dd.1.size) (cs:=ndc (nv q) cM) lc rfl (eo _ _) aD rfl rfl rfl (fun f8 a5 aB=> ?_);have ej:Below dd.1.size dd f8:=hZ.trans (aB.below t1 hZ.size);have bS:=t6 (D.out _ _ bB.out.1 ej) (vk (bB.out.2.1.below ej) a5);have fl:f8.cell? ⟨dd.1.size,1,none⟩=some (.bool (pn b7)):=by rw[<-br.out.2.2.2.2.2];exact a5.cell 1
      refine aU f ?_ (fun h=>absurd h uv);clear f m a5 aB ej hZ lc cs kk bB;generalize dd.1.size=f3 at*;go_upto_if 132 with fail
      go_cut [25] (fun rA ak=>rA= .int .i64 (kdT b7)/\ak=f8)
      case first=>
       cases bd:pn b7 with
       |true=>
        rw[bd]at fl;have gA:Hid (kdT b7=2):=by show kdT b7=2;unfold kdT;rw[bd];rfl
        clear bd;go_wp2
        go_meet
        exact⟨by rw[gA.out],rfl⟩
       |false=>
        rw[bd]at fl;have gA:Hid (kdT b7=3):=by show kdT b7=3;unfold kdT;rw[bd];rfl
        clear bd;go_wp2
        go_meet
        exact⟨by rw[gA.out],rfl⟩
      case rest=>
       obtain⟨rfl,cb⟩:=hcut;obtain rfl:=cb.symm;clear cb fl;have fn:=bDr f8;have fs:=D.out f8 _ bS.out.1 fn;have cq:=bS.out.2.1.below fn;have hM:=bS.out.2.2.below fn;generalize kdT b7=kd at*;go_wp2_with fail;refine az (fun u=>u.cell? ⟨f3,0,none⟩=some (.int .i64 cM.page)/\u.cell? ⟨gi,gm+j,none⟩=some (.int .i64 (q:Nat))) (fun k=>decide (14<=k)) uA ?_;clear fn;generalize f8.drew=h9 at*;have cs:h9.cell? ⟨f3,0,none⟩=some (.int .i64 cM.page)/\h9.cell? ⟨gi,gm+j,none⟩=some (.int .i64 (q:Nat)):=⟨hM.cell 0,(db.out h9 fs).2.1⟩;have m7:=Hk (E.out h9 fs).st br.out.1 br.out.2.1 (fun x hx=>by have:=br.out.2.2.1 x hx;have hi:2<=x/\x< (U:Int):=this;omega) t7;rw[br.out.2.2.2.1]at m7;have sV:=Hl br.out.1;have gS:Hid (fI b7=cM.page):=br.out.2.2.2.2.1.symm;rw[gS.out]at cv;have oV:Hid (IsB (bdT b7)):=Hm br.out.1;generalize bdT b7=n0 at*;obtain⟨gj,eK⟩:=aa cM.page;have ju:Hid (gj=cM.page):=eK;rw[<-eK]at cs cv ⊢;clear eK;have da:=t6 fs (vk cq hM);clear fs cq hM bS;refine aj 0 cs ?_;refine aj 1 cs ?_;refine aj 2 cs ?_;refine aj 3 cs ?_;refine aj 4 cs ?_;refine aj 5 cs ?_;refine aj 6 cs ?_;refine aj 7 cs ?_;refine ah 8 fun m f=> ?_;go_wp2_with fail;refine m7.mono ?_;rintro e h7 ⟨r6,r7,rfl,cS,gg⟩;clear m7;have km:h7.cell? ⟨f3,0,none⟩=some (.int .i64 gj)/\h7.cell? ⟨gi,gm+j,none⟩=some (.int .i64 (q:Nat)):=⟨((da.out.2.2.below cS).cell 0).trans (by rw[ju.out];rfl),(db.out h7 (D.out _ _ da.out.1 cS)).2.1⟩;have g1:=ly gj kd r6 r7 n0 h7 (gg.bs oV.out) t7;have q2:=jK gj kd n0;have h4:=t6 (D.out _ _ da.out.1 cS) (vk (da.out.2.1.below cS) (da.out.2.2.below cS));generalize pwO gj kd n0=ps at*;clear cS gg;go_wp2_with fail;refine f.out _ _ (fun _=>km) ?_;clear f m cs;refine ah 9 fun m f=> ?_;go_wp2_with fail;refine g1.mono ?_;rintro e e7 ⟨tT,pc,rz,rfl,dk,ln⟩;clear g1;have a9:e7.cell? ⟨f3,0,none⟩=some (.int .i64 gj)/\e7.cell? ⟨gi,gm+j,none⟩=some (.int .i64 (q:Nat)):=⟨((h4.out.2.2.below dk).cell 0).trans (by rw[ju.out];rfl),(db.out e7 (D.out _ _ h4.out.1 dk)).2.1⟩;have ae:=D.out _ _ h4.out.1 dk;have bb:=h4.out.2.1.below dk;have hF:=ln.reads;have q7:ob<=e7.1.size:=by have:=(E.out _ ae).fr.size;have:=a8.out.2.2.2.2.2;omega
       have ne:Hid _:=ae;clear dk ln km ae;go_wp2_with fail;refine f.out _ _ (fun _=>a9) ?_;clear f m;refine aj 10 a9 ?_;refine aj 11 a9 ?_;refine aj 12 a9 ?_;refine ah 13 fun m f=> ?_;go_wp2_with fail;refine f.out _ _ (fun _=>a9) ?_;clear f m;refine ah 14 fun m f=> ?_;go_wp2_with fail;refine aU f ?_ (fun h=>absurd h uv);clear f m a9;go_wp2_with (at_builtin;refine mT bb hF t7 q7 rfl rfl rfl rfl ?_);intro r3 r8 rP gf pA ca;have cn:bR rP:=ce.out _ _ ne.out (ca.mono bT.out) (fun t bf=>by obtain⟨f9,hrow,_⟩:=bb;exact bD hrow pA bf);obtain⟨r0,fZ⟩:=aa (xs++ps);have la:r0.length=xs.length+ps.length:=by rw[fZ,v7]
       rw[<-fZ]at gf;have e6:=t6 fZ (vk la (vk cn gf));clear fZ la cn gf pA ca bb hF;go_wp2_with fail;go_roundw
       case rel=>exact⟨j+1,r3,r8,r0,by go_num,t7,by rw[e6.out.2.1],by rw[cv.out,e6.out.1,gT.out.1],e6.out.2.2.1,e6.out.2.2.2⟩
       case measure=>simp[intOf];omega
     ·have n5:¬(j:Int)< (X.length:Int):=t7;have p9:F.take j=F:=w3 t7;have j3:Hid (xs=noL F):=by show xs= _;rw[d1,p9]
      clear p9 ft d1 a4 bx;go_wp2
      go_meet
      exact⟨rR,rS,by rw[j3.out],gT.out.2.1,by rw[<-j3.out];exact gT.out.2.2⟩
   case rest=>
    obtain⟨rR,rS,rfl,a4,bx⟩:=hcut;obtain⟨rN,T⟩:=aa wc;subst T;have n7:=sw F;obtain⟨rn,kT⟩:=aa (noL F);rw[<-kT]at bx n7 am ⊢;clear kT;have aA:=E.out rN a4;have q0:=bY.out.ln;have kR:=bY.out.len;have s1:=bY.out.u1;have oS:=Hc rN L aS V aT C a7 aA.ol aA.oi (fun x hx=>by have:=bY.out.ls x hx;omega) (fun x hx=>by have:=bY.out.mem x hx;omega) t7 t7;have fB:=sd C a7;have bB:=t6 a4 bx;generalize frO C a7=f1 at*;clear aA a4 bx;go_wp2_with fail;refine oS.mono ?_;rintro e st ⟨sH,sI,rfl,ca,gf⟩;clear oS;have cn:=D.out _ _ bB.out.1 ca;have ho:=bB.out.2.below ca;have k1:=gf.reads;have k8:ob<=st.1.size:=by have:=(E.out _ cn).fr.size;have:=a8.out.2.2.2.2.2;omega
    have oW:Hid _:=cn;clear ca gf cn bB;go_wp2_with (at_builtin;refine mT ho k1 t7 k8 rfl rfl rfl rfl ?_);intro ti tl h3 oA pC ej;have ks:bR h3:=ce.out _ _ oW.out (ej.mono bT.out) (fun t bf=>by obtain⟨f9,hrow,_⟩:=ho;exact bD hrow pC bf);obtain⟨i5,hB⟩:=aa (rn++f1);have bz:rn.length+f1.length=i5.length:=by rw[hB,v7]
    rw[<-hB]at oA am;rw[bz];have gn:=bAl h3 (.cells #[.int .i64 2,.int .i64 0,.slice none 0 0] 157);have q6:ob<=h3.1.size:=wa k8 ej.size;have sT:i5.length<=400000:=t7;have bS:=t6 ks (vk oA gn);have qa:=sE;clear bz hB oA ks pC ej ho k1 gn;have cq:=bS.out.2.1.below bS.out.2.2;have k2:=pM h3;have k9:ob<=(h3.alloc (.cells #[.int .i64 2,.int .i64 0,.slice none 0 0] 157)).1.size:=wa q6 bS.out.2.2.size;go_wp2_with (at_builtin;refine mT cq k2 (by simp;omega) k9 rfl rfl rfl rfl ?_);intro ia ib oM gg pN cS;have kt:bR oM:=ce.out _ _ (D.out _ _ bS.out.1 bS.out.2.2) (cS.mono bT.out) (fun t bf=>by obtain⟨f9,hrow,_⟩:=cq;exact bD hrow pN bf);obtain⟨c8,hC⟩:=aa (i5++[opS]);have fD:i5.length+1=c8.length:=by rw[hC,v7];rfl
    rw[<-hC]at gg am
    first|rw[fD]|(simp only[w6,AC,wB];rw[fD])
    have kG:c8.length<=400001:=by rw[<-fD];omega
    have em:=bDr oM;have ae:=D.out _ _ kt em;have bb:=gg.below em;clear fD hC gg kt pN cS cq k2 k9 bS qa;go_wp2_with fail;refine az (fun u=>u.cell? ⟨sb,0,none⟩=some (.int .i64 i)/\u.cell? ⟨ab,1,none⟩=some (.int .i64 z)) (fun k=>decide (9<=k)) uA ?_;clear em;generalize oM.drew=bu at*;have gw:Hid (∀u,bR u->u.cell? ⟨sb,0,none⟩=some (.int .i64 i)/\u.cell? ⟨ab,1,none⟩=some (.int .i64 z)):=fun u S=>⟨(E.out u S).sb.cell 0,(E.out u S).ab.cell 1⟩;have cs:=gw.out bu ae;have q3:IntKind.i64.wrap (i+1)=i+1:=ll _ t7 t7;have d4:=bAl bu (.cells (al 0 0 0 0).toArray 36);have hL:=aq bu 36 (al 0 0 0 0).toArray;have hc:=gw.out _ (D.out _ _ ae d4);have bk:=t6 ae (vk bb d4);clear ae bb;refine aj 0 cs ?_;refine aj 1 cs ?_;refine aj 2 cs ?_;refine aj 3 cs ?_;refine aj 4 cs ?_;refine aj 5 cs ?_;refine aj 6 cs ?_;refine aM 7 (.agg (al (i+1) 0 z 0).toArray) cs ?hb7 ?_
    case hb7=>exact fun u _=>lm rfl (by simp only[wz,wg,wv];exact Hy (i+1) z)
    refine ah 8 fun m f=> ?_;go_wp2_with fail;refine f.out _ _ (fun _=>hc) ?_;clear f m;refine ah 9 fun m f=> ?_;refine bK (k:=bu.1.size) (cs:=al (i+1) 0 z 0) hL rfl (fe _ _ _ _) bj rfl rfl rfl (fun f8 a5 aB=> ?_);have ch:Below bu.1.size bu f8:=d4.trans (aB.below t1 d4.size);have et:=D.out _ _ bk.out.1 ch;have J:=t6 et (vk (bk.out.2.1.below ch) a5);have tp:f8.cell? ⟨g,1,none⟩=some (.int .i64 rt):=(E.out f8 et).st.blk.cell 1;have hK:A.1.size<=bu.1.size:=(E.out _ bk.out.1).fr.size;refine aU f ?_ (fun h=>absurd h uv);clear f m a5 aB ch d4 hL cs hc bk et;generalize bu.1.size=Y at*;clear q3;have j2:Hid _:=h5.out.1;go_upto_if 169 with fail
    go_cut [] (fun ak=>bR ak/\OOp ob ak ia ib c8/\Blk ak 36 Y (al (i+1) (rtZ c9) z 0))
    case first=>
     cases c9 with
     |none=>
      obtain rfl:rt= -1:=j2.out;go_wp2
      go_meet
      exact⟨J.out.1,J.out.2.1,J.out.2.2⟩
     |some x=>
      obtain⟨so,ss⟩:=x;obtain⟨k6,tb,k4,_⟩:=j2.out;obtain⟨p,h6,cV,ag,he,_⟩:=k4.top k6;subst cV;have s2:(0:Int)<=(p:Int):=t7;have aA:=E.out f8 J.out.1;obtain⟨b,n3,i1,_,q2⟩:=aA.st.cells ag;subst n3;have nd:Hid (∀u,bR u->u.cell? ⟨g,0,none⟩=some (.slice (some ⟨b,0,none⟩) ms.length nc)/\u.cell? ⟨g,1,none⟩=some (.int .i64 (p:Nat))/\u.cell? ⟨b,p*6,none⟩=some (.int .i64 h6.page)):=fun u S=>by
       have cb:=E.out u S;obtain⟨tk,hf,hu,_,_⟩:=cb.st.cells ag;cases hf;exact⟨cb.st.blk.cell 0,cb.st.blk.cell 1,hu 0 _ rfl⟩
      have gS:Hid (h6.page=rtZ (some (so,ss))):=he;clear ag he aA i1 k6 k4;have cT:=bDr f8;have c0:=D.out _ _ J.out.1 cT;have hm:=J.out.2.1.below cT;have a0:=J.out.2.2.below cT;go_wp2_with fail;refine az (fun u=>u.cell? ⟨g,0,none⟩=some (.slice (some ⟨b,0,none⟩) ms.length nc)/\u.cell? ⟨g,1,none⟩=some (.int .i64 (p:Nat))/\u.cell? ⟨b,p*6,none⟩=some (.int .i64 h6.page)) (fun k=>decide (12<=k)) uA ?_;clear cT;generalize f8.drew=bv at*;have cs:=nd.out bv c0;generalize h6.page=gc at*;have fl:bv.cell? ⟨Y,1,none⟩=some (.int .i64 0):=a0.cell 1;have sC:=a0.free 1;have d3:=ax bv Y 1 (.int .i64 gc);have r5:Below A.1.size bv (bv.setCell ⟨Y,1,none⟩ (.int .i64 gc)):=d3.below hK ((E.out _ c0).fr.size);have q9:=a0.set 1 (.int .i64 gc);have kv:bR (bv.setCell ⟨Y,1,none⟩ (.int .i64 gc)):=jk.out bv Y 1 (.int .i64 gc) c0 hK ⟨_,a0⟩;have kD:OOp ob (bv.setCell ⟨Y,1,none⟩ (.int .i64 gc)) ia ib c8:=hm.keep (aw d3 a0 uv) (aw d3 a0 uv);have cc:=t6 kv (vk kD q9);clear c0 hm a0 d3 r5 q9 kv kD;refine au 0 cs ?_;refine au 1 cs ?_;refine au 2 cs ?_;refine au 3 cs ?_;refine au 4 cs ?_;refine au 5 cs ?_;refine au 6 cs ?_;refine au 7 cs ?_;refine au 8 cs ?_;refine au 9 cs ?_;refine au 10 cs ?_;refine ah 11 fun m f=> ?_;go_wp2_with fail;refine f.out _ _ (fun _=>cs) ?_;clear f m;refine ah 12 fun m f=> ?_;go_wp2_with fail;refine aU f ?_ (fun h=>absurd h uv);clear f m cs;go_wp2
      go_meet
      exact⟨cc.out.1,cc.out.2.1,by rw[<-gS.out];exact cc.out.2.2⟩
    case rest=>
     obtain⟨ba,b2,M⟩:=hcut;obtain⟨bs,T⟩:=aa wc;subst T;generalize rtZ c9=a2 at*;obtain⟨H,hw⟩:=aa (C.headD 0);rw[<-hw]at am;have jq:Hid _:=hw;clear hw;have e4:=t6 ba (vk b2 M);go_upto_if 184 with fail
     go_cut [] (fun ak=>bR ak/\OOp ob ak ia ib c8/\Blk ak 36 Y (al (i+1) a2 z H))
     case first=>
      by_cases p0:0<C.length
      ·have p1:(0:Int)< (C.length:Int):=t7;obtain⟨rd,rk,hf,ek⟩:=(E.out bs ba).ol.get p0;subst hf;rw[cF _ _ p0]at ek;have po:C.getD 0 0=H:=by rw[jq.out];cases C<;>rfl
       rw[po]at ek;have hb:bs.cell? ⟨rd,rk,none⟩=some (.int .i64 H):=ek;have sB:bs.cell? ⟨Y,3,none⟩=some (.int .i64 0):=M.cell 3;have sD:=M.free 3;have d3:=ax bs Y 3 (.int .i64 H);have bl:Hid (bR (bs.setCell ⟨Y,3,none⟩ (.int .i64 H))/\OOp ob (bs.setCell ⟨Y,3,none⟩ (.int .i64 H)) ia ib c8/\Blk (bs.setCell ⟨Y,3,none⟩ (.int .i64 H)) 36 Y (al (i+1) a2 z H)):=⟨jk.out bs Y 3 (.int .i64 H) ba hK ⟨_,M⟩,b2.keep (aw d3 M uv) (aw d3 M uv),M.set 3 (.int .i64 H)⟩;clear po ek d3 ba b2 M;go_wp2
       go_meet
       exact⟨bl.out.1,bl.out.2.1,bl.out.2.2⟩
      ·have p1:¬(0:Int)< (C.length:Int):=t7;have o4:Hid (H=0):=by
        show H=0;rw[jq.out,y1 (show C.length=0 by omega)]
        rfl
       clear ba b2 M;go_wp2
       go_meet
       exact⟨e4.out.1,e4.out.2.1,by rw[o4.out];exact e4.out.2.2⟩
     case rest=>
      obtain⟨hj,hn,eN⟩:=hcut;obtain⟨g3,T⟩:=aa wc;subst T;have nw:=pS (i+1) a2 z H g3;have gY:Hid _:=am.out;clear am ba b2 M e4;obtain⟨gp,fP⟩:=aa (suO (i+1,a2,z,H));have c6:kOf (bG (i+1) a2 z H)=gp.length:=by rw[fP,suO,gV]
      have sm:gp.length<=4:=by rw[<-c6];exact tK _
      have o2:Hid _:=fP;rw[<-fP]at gY;rw[c6]at nw;generalize dX:bG (i+1) a2 z H=s7 at*;have bl:=t6 hj (vk hn eN);clear fP;go_wp2_with (refine B3 rfl 36 _ rfl Y rfl 36 (al (i+1) a2 z H).toArray (0,0) _ eN underlying36 rfl bj ?_);refine nw.mono ?_;rintro e e8 ⟨sp,rJ,rfl,g6,mB⟩;clear nw hj hn eN;have m0:ROp e8 sp rJ gp:=by
       have h:=mB.rop.reads;rw[o2.out,suO,dX];rw[<-c6]at h;exact h
      have en:=bDr e8;have fc:Below g3.1.size g3 e8.drew:=g6.trans (en.mono g6.size);have gv:=t6 (D.out _ _ bl.out.1 fc) (vk (bl.out.2.1.below fc) (vk (m0.below en) (bl.out.2.2.below fc)));clear g6 mB m0 bl c6 dX en fc;go_wp2_with fail;refine az (fun u=>(Instr.loadAt 36 (.pointer (some ⟨Y,0,none⟩))).run prog u= .ok (.agg (al (i+1) a2 z H).toArray) u) (fun k=>decide (8<=k)) uA ?_;generalize e8.drew=an at*;have Z:=gv;have cs:(Instr.loadAt 36 (.pointer (some ⟨Y,0,none⟩))).run prog an= .ok (.agg (al (i+1) a2 z H).toArray) an:=aN Z.out.2.2.2;have eL:ob<=an.1.size:=by have:=(E.out _ Z.out.1).fr.size;have:=a8.out.2.2.2.2.2;omega
      have am:=gY;clear gv gY;refine ai 0 cs ?_;refine ai 1 cs ?_;refine aM 3 (.agg #[.int .i64 2,.int .i64 0,.slice none 0 0]) cs ?hb3 ?_
      case hb3=>exact fun u _=>lm rfl (by simp only[wz,wg,wv];exact sE)
      refine aM 6 (.agg (al (i+1) a2 z H).toArray) cs ?hb6 ?_
      case hb6=>exact fun u dE=>bo (p:= .pointer (some ⟨Y,0,none⟩)) rfl rfl dE
      refine fQ 2 4 uA rfl rfl (fun m f=> ?_) (fun m f=> ?_);rw[B2 (show Region.wanted _ _=true from rfl)];refine jc Z.out.2.1 Z.out.2.2.1 t7 eL rfl rfl rfl ?_;intro o8 pa Q l1 kp g7;have eU:∀t,157≠t->KeepT t an Q:=fun t bf=>by obtain⟨f9,hrow,_⟩:=Z.out.2.1;exact bD hrow kp bf
      have bZ:=ce.out _ _ Z.out.1 (g7.mono bT.out) eU;have a1:=Z.out.2.2.2.keepT (eU _ uv);refine f.out _ _ (fun _=>aN a1) ?_;clear f m;obtain⟨bA,aX⟩:=aa Q.1.size;obtain⟨a3,c3⟩:=aa (Q.alloc (.cells #[.int .i64 2,.int .i64 0,.slice none 0 0] 157));have d6:Below Q.1.size Q a3:=by rw[c3];exact bAl _ _
      have e3:ROp a3 (some ⟨bA,0,none⟩) 1 [opS]:=by rw[c3,aX];exact pM Q
      refine ah 4 fun m f=> ?_;refine bU _ _ _ rfl (v:= .slice (some ⟨bA,0,none⟩) 1 1) (w':=a3) ?bsA ?_
      case bsA=>
       simp only[wz,wg,wv];rw[c3,aX];exact fq pL t7 (.agg #[.int .i64 2,.int .i64 0,.slice none 0 0]) [.int .i64 2,.int .i64 0,.slice none 0 0] rfl rfl Q
      have cB:=l1.below d6;have ev:=D.out _ _ bZ d6;have b5:=a1.below d6;have hJ:ob<=a3.1.size:=wa eL (wa g7.size d6.size);refine f.out _ _ (fun _=>aN b5) ?_;clear f m c3 aX d6 eU bZ a1 l1 kp g7
      rotate_left
      rw[B2 (show Region.wanted _ _=true from rfl)];obtain⟨bA,aX⟩:=aa an.1.size;obtain⟨Q,c2⟩:=aa (an.alloc (.cells #[.int .i64 2,.int .i64 0,.slice none 0 0] 157));have cD:Below an.1.size an Q:=by rw[c2];exact bAl _ _
      have e2:Blk Q 157 bA [.int .i64 2,.int .i64 0,.slice none 0 0]:=by rw[c2,aX];exact aq an _ _
      refine bU _ _ _ rfl (v:= .slice (some ⟨bA,0,none⟩) 1 1) (w':=Q) ?bsB ?_
      case bsB=>
       simp only[wz,wg,wv];rw[c2,aX];exact fq pL t7 (.agg #[.int .i64 2,.int .i64 0,.slice none 0 0]) [.int .i64 2,.int .i64 0,.slice none 0 0] rfl rfl an
      have bZ:=D.out _ _ Z.out.1 cD;have a1:=Z.out.2.2.2.below cD;refine f.out _ _ (fun _=>aN a1) ?_;clear f m c2;have eB:=Z.out.2.1.below cD;have hG:=Z.out.2.2.1.below cD;have eM:ob<=Q.1.size:=wa eL cD.size;refine ah 2 fun m f=> ?_;refine jc eB hG t7 eM rfl rfl rfl ?_;intro o8 pa a3 cB hg g8;have eV:∀t,157≠t->KeepT t Q a3:=fun t bf=>by obtain⟨f9,hrow,_⟩:=eB;exact bD hrow hg bf
      have ev:=ce.out _ _ bZ (g8.mono bT.out) eV;have b5:=a1.keepT (eV _ uv);have e3:ROp a3 (some ⟨bA,0,none⟩) 1 [opS]:=Hz ((hg.block bA e2.lt (fun e=>by obtain⟨f9,hrow,_⟩:=Z.out.2.1;have:=(B5 hrow bA e.symm).2;omega)).trans e2);have hJ:ob<=a3.1.size:=wa eM g8.size;refine f.out _ _ (fun _=>aN b5) ?_;clear f m aX cD e2 bZ a1 eB hG eM eV hg g8
      all_goals
       have n6:(c8++gp).length<=500000:=by rw[v7];omega
       obtain⟨hS,fM⟩:=aa (c8++gp);rw[<-fM]at cB n6;have kS:c8.length+gp.length=hS.length:=by rw[fM,v7]
       rw[kS];have nm:Hid _:=fM;have jh:=t6 ev (vk cB b5);clear fM kS ev b5;refine ah 5 fun m f=> ?_;refine jc cB e3 (by simp;omega) hJ rfl rfl rfl ?_;intro fa fm kb l2 kr kg;have eW:∀t,157≠t->KeepT t a3 kb:=fun t bf=>by obtain⟨f9,hrow,_⟩:=cB;exact bD hrow kr bf
       have ex:=ce.out _ _ jh.out.1 (kg.mono bT.out) eW;have eR:=jh.out.2.2.keepT (eW _ uv);have c7:=(E.out _ ex).rb;have eq:=(E.out _ ex).fr;refine f.out _ _ (fun _=>aN eR) ?_;clear f m kr kg eW cB e3;have oT:Hid (OOp ob kb fa fm (hS++[opS])):=l2;refine ah 7 fun m f=> ?_;go_wp2_with fail;refine f.out _ _ (fun _=>aN eR) ?_;clear f m;refine ah 8 fun m f=> ?_;refine bK (k:=rb) (cs:=(al (i+1) a2 z H)) c7 rfl (fe _ _ _ _) bj rfl rfl rfl (fun e9 a5 aB=> ?_);have f7:Hid (Blk e9 36 rb (al (i+1) a2 z H)/\Below B0 w e9/\OOp ob e9 fa fm (hS++[opS])):=⟨a5,jl.out e9 (eq.trans (aB.below (by have:=f5.out.2;have:=bW.out;omega) (wa jT.out.2.2 eq.size))),oT.out.keep (aw aB c7 uv) (aw aB c7 uv)⟩;refine ao f ?_ (fun h=>absurd h uv);clear f m a5 aB c7 eq ex eR l2;refine ah 9 fun m f=> ?_;go_wp2_with fail;refine aU f ?_ (fun h=>absurd h uv);clear f m;have eb:Hid (R.1=hS++[opS]/\R.2.1=(i+1,a2,z,H)/\R.2.2=0):=by
        show _/\_;rw[am.out,nm.out];exact⟨by rw[wi],rfl,rfl⟩
       go_wp2_with fail;refine B1 (v:= .tuple #[.slice fa (hS.length+1) fm,.agg (al (i+1) a2 z H).toArray,.int .i64 0]) ?_ rfl ?_
       ·exact jL results99 _ _ rb 36 (al (i+1) a2 z H).toArray _ rfl f7.out.1 underlying36 rfl bj rfl rfl
       ·rw[eb.out.1,eb.out.2.1,eb.out.2.2];exact⟨fa,fm,by rw[v7];rfl,f7.out.2.1,OOp.mono f7.out.2.2 bT.out⟩
