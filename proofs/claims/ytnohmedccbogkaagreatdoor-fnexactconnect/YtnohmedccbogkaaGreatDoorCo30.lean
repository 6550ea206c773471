import Derived.Test.YtnohmedccbogkaaGreatDoorCo29
namespace Go.Proofs.YtnohmedccbogkaaGreatDoor
open Go.Proofs.Tryz
open Go.RowKit
set_option linter.unusedVariables false
set_option maxRecDepth 100000
set_option maxHeartbeats 32000000
def rdV(d:DV)(K:DK)(g:Nat):List Value:=[.slice d.sa K.n d.sc,.slice d.pa K.m d.pc,.map (some g)]
theorem Ae{B w a n c l}(h:Own B w a n c l)(e:IsB l):BsT w a n c l:=
 ⟨h.bs e,fun k=>by
  rcases h.2 with⟨b,j⟩|⟨g,i,d,b,_,f,_⟩
  ·omega
  ·simp only[s0]at b;exact⟨g,0,d,(0,0),b.1,f⟩⟩
noncomputable def whB(K:DK)(gen root used free:Int):Bool:=match bK K with|true=>hoB (pgD K) (nPg K) ((nPg K:Nat):Int) gen root used free|false=>false
theorem Af:(prog.info? 140).map (·.size)=some 3:=kO
theorem Lf(d K g):∀b∈rdV d K g,b.oneCell'=true:=by intro b a;simp[rdV]at a;rcases a with rfl|rfl|rfl<;>rfl
def mf(v:Value):Option (DataW Value×List MemPlace):=some (.held v,[])
def cpZ:List Value:=[.int .i64 0,.slice none 0 0,.nilIface]
theorem Lg:∀b∈cpZ,b.oneCell'=true:=by intro b a;simp[cpZ]at a;rcases a with rfl|rfl|rfl<;>rfl
theorem Ag(w):(zeroValue 283).run prog w= .ok (.agg cpZ.toArray) w:=kO
theorem Ah:(prog.info? 283).map (·.size)=some 3:=kO
def woC(d:DV)(K:DK)(g mc:Nat)(root:Int):List Value:=[.slice d.sa K.n d.sc,.slice d.pa K.m d.pc,.map (some g),.map (some mc),.int .i64 root]
def PgV(P:Pg)(u:World)(i:Int)(xs:List Value):Prop:=
 (P.ok i=true/\∃a c,xs=[.int .i64 (P.kd i),.slice a (P.bd i).length c,.nilIface]/\BsT u a (P.bd i).length c (P.bd i))\/(P.ok i=false/\∃(k:Int)(a:Option Addr)(n c:Nat)(ad:Addr),xs=[.int .i64 k,.slice a n c,errV ad])
theorem PgV.keep{P g u' i xs}(h:PgV P g i xs)(f:KeepT 5 g u'):PgV P u' i xs:=by
 rcases h with⟨b,a,c,e,d⟩|h
 ·exact kV ⟨b,a,c,e,d.keep f⟩
 ·exact kT h
theorem PgV.form{P d i xs}(h:PgV P d i xs):∃(k:Int)(a:Option Addr)(n c:Nat)(e:Value),xs=[.int .i64 k,.slice a n c,e]/\(e= .nilIface\/∃b,e=errV b):=by
 rcases h with⟨_,a,c,e,_⟩|⟨_,k,a,n,c,b,e⟩
 ·exact⟨_,a,_,c,_,e,kV rfl⟩
 ·exact⟨k,a,n,c,_,e,kT ⟨b,rfl⟩⟩
theorem Ai{P p i k a n c e}(h:PgV P p i [.int .i64 k,.slice a n c,e]):(P.ok i=true/\∃b d,Ending.returned (.tuple #[.int .i64 k,.slice a n c,e])= .returned (.tuple #[.int .i64 (P.kd i),.slice b (P.bd i).length d,.nilIface])/\BsT p b (P.bd i).length d (P.bd i))\/(P.ok i=false/\∃(j:Int)(b:Option Addr)(l d:Nat)(f:Addr),Ending.returned (.tuple #[.int .i64 k,.slice a n c,e])= .returned (.tuple #[.int .i64 j,.slice b l d,errV f])):=by
 rcases h with⟨m,b,d,g,o⟩|⟨m,j,b,l,d,f,g⟩
 ·exact kV ⟨m,b,d,by rw[show(#[.int .i64 k,.slice a n c,e]:Array Value)=[.int .i64 k,.slice a n c,e].toArray from rfl,g],o⟩
 ·exact kT ⟨m,j,b,l,d,f,by rw[show(#[.int .i64 k,.slice a n c,e]:Array Value)=[.int .i64 k,.slice a n c,e].toArray from rfl,g]⟩
theorem Aj{H:Type}{P:Program}(w:World){o:Oper}{a:Act}{i:Act->World->Prop}{C:Exit->Act->World->Prop}
 (m x v:Operand)(B:TypeId)(j:o.op=Op.mapUpdate B m x v)(k e:TypeId)(K:Maps.Keyed P k)(t:P.underlying B=some (.map k e))(p:Value->Option (DataW H×List MemPlace))(b n:Nat)(A:DataW H)
 (r:a.eval m= .map (some b))(f:w.ownsMap P k p b n A)(s:n<maxLen)(key val:Value)(l:Lit)(hx:a.eval x=key)(u:a.eval v=val)(c:keyOf P k key=some l)
 (d:DataW H)(ps:List MemPlace)(h:p val=some (d,ps))(q:∀w',w'.ownsMap P k p b (n+1) (A.put l d)->w.grownBy w' (some b)->i (a.put o.dst undef) w'):o.wp P a w i C:=by
 obtain⟨w',g,y,z⟩:=f.update K t s c h;unfold Oper.wp;simp[execOp,j,r,hx,u,g,Result.andThen];exact q w' y z
structure CaQ(P:Pg)(u:World)(mc:Nat)(cl:List Int)(D:DataW Value):Prop where
 own:u.ownsMap prog 3 mf mc cl.length D
 ok:SeenOk cl 4294967296
 has:∀i:Int,Maps.has D (.int .i64 i)=cl.contains i
 at_:∀i∈cl,∃xs:List Value,D.atKey (.int .i64 i) (.held (.agg cpZ.toArray))= .held (.agg xs.toArray)/\PgV P u i xs
theorem CaQ.keep{P k u' b d l}(h:CaQ P k b d l)(j:u'.heap[b]?=k.heap[b]?)(g:KeepT 5 k u'):CaQ P u' b d l:=
 ⟨by obtain⟨es,a,c,r⟩:=h.own;exact⟨es,a,j.trans c,r⟩,h.ok,h.has,fun i f=>by obtain⟨xs,c,e⟩:=h.at_ i f;exact⟨xs,c,e.keep g⟩⟩
structure CS(P:Pg)(w1:World)(gw mc:Nat)(cells:List Value)(u:World):Prop where
 b:Below w1.1.size w1 u
 k:Blk u 145 gw cells
 ca:∃cl D,CaQ P u mc cl D
theorem Ak{P w1 gw d cells s f u' id e}(r:w1.1.size<=d)(h:jR P (CS P w1 gw d cells) (fun k=>k=d) s id e f)(b:Below f.1.size f u'):jR P (CS P w1 gw d cells) (fun k=>k=d) s id e u':=by
 obtain⟨⟨g,p,m,t,j⟩,o,l⟩:=h;refine⟨⟨g.trans (b.mono g.size),p.below b,m,t,j.keep (b.block d j.own.lt) (aW b)⟩,o.trans (OnlyS.ofBelow b),?_⟩;rcases l with⟨q,a,c,n,i⟩|h
 ·exact kV ⟨q,a,c,n,i.keep (aW b)⟩
 ·exact kT h
theorem Al{P w1 B f g gw b j cells id k a n c e p C}(L:j=B.1.size)(E:0<=id)(F:id<4294967296)(y:id∉p)(M:gw≠j)(A:b≠j)(K:w1.1.size<=b)(N:B.1.size<=j)(q:CS P w1 gw b cells f)(h:CaQ P f b p C)(r:PgV P f id [.int .i64 k,.slice a n c,e])(v:OnlyS (fun k=>k=b) B f)(s:Blk f 283 j [.int .i64 k,.slice a n c,e])(D:g.ownsMap prog 3 mf b (p.length+1) (C.put (.int .i64 id) (.held (.agg #[.int .i64 k,.slice a n c,e]))))(l:f.drew.grownBy g (some b)):
 jR P (CS P w1 gw b cells) (fun k=>k=b) B id (.returned (.tuple #[.int .i64 k,.slice a n c,e])) g/\Blk g 283 j [.int .i64 k,.slice a n c,e]:=by
 have o:OnlyS (fun k=>k=b) f g:=⟨l.os,l.tape,l.output,l.size,fun i d I=>l.block i d (fun e=>I (sv e))⟩;obtain⟨es,J,z,_⟩:=h.own;have w:gw≠b:=fun e=>by
  have:=q.k;unfold Blk at this;rw[e,z]at this;cases this
 have t:KeepT 5 f g:=zO o (fun k s cs fr x=>by rw[s,z]at x;cases x);have u:CaQ P g b (id::p) (C.put (.int .i64 id) (.held (.agg #[.int .i64 k,.slice a n c,e]))):=by
  refine⟨D,h.ok.cons E F y,fun i=> ?_,fun i d=> ?_⟩
  ·by_cases d:i=id
   ·subst d;rw[Maps.has_put_same h.own.isMap (by trivial)];simp
   ·rw[Maps.has_put_other (by intro e;cases e;exact d rfl),h.has];simp[d]
  ·by_cases m:i=id
   ·subst m;exact⟨_,Maps.atKey_put_same h.own.isMap (by trivial) _ _,r.keep t⟩
   ·rcases l3.1 d with e|d
    ·exact absurd e m
    ·obtain⟨xs,G,H⟩:=h.at_ i d;exact⟨xs,by rw[Maps.atKey_put_other (by intro e;cases e;exact m rfl)];exact G,H.keep t⟩
 exact⟨⟨⟨q.b.trans (o.below q.b.size (fun k e=>by omega)),q.k.onlyS o w,_,_,u⟩,v.trans o,Ai (r.keep t)⟩,s.onlyS o (fun e=>A e.symm)⟩
theorem Lh(p w):(Go.method 482 83 (.pointer p) "loop.example/s01906/impl.page").run prog w= .ok (157,.pointer p) w:=kO
theorem Li{a8 a9 d K g gw f root w1}(h:RDisk w1 d K)(bt:dOk K)(bu:Errs w1 a8 a9)(bw:w1.ownsMap prog 3 (plainElem prog 3) g K.m (eZ K.At K.m))(R:w1.1.size<=f)(bE:w1.1.size<=gw)(id l)(C:CS (pgD K) w1 gw f (woC d K g f root) l)(bl:0<=id)(Z:id<4294967296):
 Calls prog 157 #[.pointer (some ⟨gw,0,none⟩),.int .i64 id] l (jR (pgD K) (CS (pgD K) w1 gw f (woC d K g f root)) (fun k=>k=f) l id):=by
 obtain⟨B,an,I⟩:=C.ca;have ab:=I.own;have D:keyOf prog 3 (.int .i64 id)=some (.int .i64 id):=Maps.keyOf_int_mk r7 (by have a6:IntKind.i64.min= -9223372036854775808:=rfl;have a7:IntKind.i64.max=9223372036854775807:=rfl;simp only[Lit.wf,ly,sZ];omega);have bk:l.cell? ⟨gw,3,none⟩=some (.map (some f)):=C.k.cell 3;have aO:=ab.lt;have bz:=C.k.lt;have a0:=C.b.size;have bx:=I.ok.le;have u:=I.has id;by_cases M:id∈B
 ·obtain⟨xs,J,t⟩:=I.at_ id M;obtain⟨k,a,n,c,e,rfl,bq⟩:=t.form;rw[m9.2 M]at u;have s:=bAl l (.cells #[.int .i64 k,.slice a n c,e] 283);have P:=ao l 283 #[.int .i64 k,.slice a n c,e];have bc:=dP (cs:=[.int .i64 k,.slice a n c,e]) (by intro x hx;simp at hx;rcases hx with rfl|rfl|rfl;rfl;rfl;rcases bq with rfl|⟨p,rfl⟩<;>rfl);have G:Hid (∀u',Below (l.alloc (.cells #[.int .i64 k,.slice a n c,e] 283)).1.size (l.alloc (.cells #[.int .i64 k,.slice a n c,e] 283)) u'->jR (pgD K) (CS (pgD K) w1 gw f (woC d K g f root)) (fun k=>k=f) l id (.returned (.tuple #[.int .i64 k,.slice a n c,e])) u'):=fun u' ai=>by
   have s:=s.trans (ai.mono s.size);refine⟨⟨C.b.trans (s.mono a0),C.k.below s,B,an,I.keep (s.block f aO) (aW s)⟩,OnlyS.ofBelow s,Ai (t.keep (aW s))⟩
  clear t C I;go_enter func157,ntmps157;go_upto_region 2 with(first|(at_lookup;refine wpList_lookup_own_ok _ rfl _ _ 143 rfl 3 283 l5 underlying143 mf (Ag _) (.held (.agg cpZ.toArray)) [] rfl f _ an rfl ab _ _ rfl D ?_;rw[u];intro v ps ak;rw[J]at ak;cases ak)|(refine aL rfl 283 _ _ rfl l cpZ.toArray #[.int .i64 k,.slice a n c,e] 283 rfl rfl Ah rfl bc ?_))
  change Code.wp _ _ _ _ (l.alloc (.cells #[.int .i64 k,.slice a n c,e] 283));have bg:(l.alloc (.cells #[.int .i64 k,.slice a n c,e] 283)).cell? ⟨l.1.size,0,none⟩=some (.int .i64 k):=Blk.cell P 0;have bh:(l.alloc (.cells #[.int .i64 k,.slice a n c,e] 283)).cell? ⟨l.1.size,1,none⟩=some (.slice a n c):=Blk.cell P 1;have bi:(l.alloc (.cells #[.int .i64 k,.slice a n c,e] 283)).cell? ⟨l.1.size,2,none⟩=some e:=Blk.cell P 2;generalize l.alloc (.cells #[.int .i64 k,.slice a n c,e] 283)=ap at*;generalize l.1.size=b at*;clear bk ab J u P;go_upto_region 5 with fail
  go_quiet (fail)
  go_wp2_with fail;refine p6 (v:= .tuple #[.int .i64 k,.slice a n c,e]) (by simp[results,results157]) rfl (G.out _ (io kF nq))
 ·have bs:B.contains id=false:=by rw[<-nl,m9];exact M
  rw[bs]at u;have J:an.atKey (.int .i64 id) (.held (.agg cpZ.toArray))= .held (.agg cpZ.toArray):=Maps.atKey_of_not_has u _;have s:=bAl l (.cells cpZ.toArray 283);have P:=ao l 283 cpZ.toArray;have W:=C.b.trans (s.mono a0);have a2:(l.alloc (.cells cpZ.toArray 283)).ownsMap prog 3 (plainElem prog 3) g K.m (eZ K.At K.m):=by
   obtain⟨es,ar,Z,r⟩:=bw;exact⟨es,ar,(W.block g (k6.1 Z).1).trans Z,r⟩
  have a4:=Jh a8 a9 d K id g _ (h.below W) bt (bu.below W) a2;have a1:=C.k.below s;have aH:=I.keep (s.block f aO) (aW s);have j:=kG W (kR a1 (kR aH (kR P s)));have ad:B.length<maxLen:=by unfold maxLen;omega
  have bp:=rY h id;clear C I a2 a1 aH P W s;go_enter func157,ntmps157;go_upto_region 2 with(first|(at_lookup;refine wpList_lookup_own_ok _ rfl _ _ 143 rfl 3 283 l5 underlying143 mf (Ag _) (.held (.agg cpZ.toArray)) [] rfl f _ an rfl ab _ _ rfl D ?_;rw[u];intro v ps ak;rw[J]at ak;cases ak)|(refine aL rfl 283 _ _ rfl l cpZ.toArray cpZ.toArray 283 rfl rfl Ah rfl (dP Lg) ?_))
  change Code.wp _ _ _ _ (l.alloc (.cells cpZ.toArray 283));generalize l.alloc (.cells cpZ.toArray 283)=ap at*;obtain⟨b,ah⟩:∃x,x=l.1.size:=⟨_,rfl⟩;rw[<-ah]at j ⊢;have T:f≠b:=kH;have S:gw≠b:=kH;have aX:l.1.size<=b:=kH;have Q:Hid (b=l.1.size):=ah;clear ah;have bF:=Blk.lt j.out.2.2.2.1;have e0:ap.cell? ⟨gw,0,none⟩=some (.slice d.sa K.n d.sc):=j.out.2.1.cell 0;have a6:ap.cell? ⟨gw,1,none⟩=some (.slice d.pa K.m d.pc):=j.out.2.1.cell 1;have a7:ap.cell? ⟨gw,2,none⟩=some (.map (some g)):=j.out.2.1.cell 2;clear bk ab J u;go_wp2_with fail;refine a4.mono ?_;rintro e o ⟨q,ag⟩;have t:∃(k:Int)(a:Option Addr)(n c:Nat)(X:Value),e= .returned (.tuple #[.int .i64 k,.slice a n c,X])/\PgV (pgD K) o id [.int .i64 k,.slice a n c,X]/\(X= .nilIface\/∃p,X=errV p):=by
   rcases ag with⟨N,a,c,ae,bd⟩|⟨N,aw,bH,ae|ae⟩
   ·exact⟨_,a,_,c,_,ae,kV ⟨N,a,c,rfl,Ae bd bp⟩,kV rfl⟩
   ·exact⟨0,none,0,0,_,ae,kT ⟨N,0,none,0,0,a9,rfl⟩,kT ⟨_,rfl⟩⟩
   ·exact⟨0,none,0,0,_,ae,kT ⟨N,0,none,0,0,a8,rfl⟩,kT ⟨_,rfl⟩⟩
  obtain⟨k,a,n,c,X,rfl,t,bn⟩:=t;rcases bn with rfl|⟨p,rfl⟩
  ·have m:=Blk.below j.out.2.2.2.1 q;have bf:o.cell? ⟨b,0,none⟩=some (.int .i64 0):=m.cell 0;have ba:=m.free 0;have E:=m.set 0 (.int .i64 k);have N:(o.setCell ⟨b,0,none⟩ (.int .i64 k)).cell? ⟨b,1,none⟩=some (.slice none 0 0):=E.cell 1;have f1:=E.free 1;have F:=E.set 1 (.slice a n c);have aw:((o.setCell ⟨b,0,none⟩ (.int .i64 k)).setCell ⟨b,1,none⟩ (.slice a n c)).cell? ⟨b,2,none⟩=some .nilIface:=F.cell 2;have bb:=F.free 2;have am:Blk (((o.setCell ⟨b,0,none⟩ (.int .i64 k)).setCell ⟨b,1,none⟩ (.slice a n c)).setCell ⟨b,2,none⟩ .nilIface) 283 b [.int .i64 k,.slice a n c,.nilIface]:=F.set 2 .nilIface;have w:=((aB o b 0 (.int .i64 k)).trans (aB _ b 1 (.slice a n c))).trans (aB _ b 2 .nilIface);have bj:=q.size;have V:CS (pgD K) w1 gw f (woC d K g f root) (((o.setCell ⟨b,0,none⟩ (.int .i64 k)).setCell ⟨b,1,none⟩ (.slice a n c)).setCell ⟨b,2,none⟩ .nilIface)/\CaQ (pgD K) (((o.setCell ⟨b,0,none⟩ (.int .i64 k)).setCell ⟨b,1,none⟩ (.slice a n c)).setCell ⟨b,2,none⟩ .nilIface) f B an:=by
    have be:=(aW q).trans (aV w m (by decide:283≠5));have af:=(w.block f kH T).trans (q.block f kH);have L:=j.out.2.2.1.keep af be;exact⟨⟨(j.out.1.trans (q.mono j.out.1.size)).trans (w.below kH (by have:=j.out.1.size;omega)),(j.out.2.1.below q).only w S,B,an,L⟩,L⟩
   have O:=t.keep (aV w m (by decide:283≠5));have H:OnlyS (fun k=>k=f) l (((o.setCell ⟨b,0,none⟩ (.int .i64 k)).setCell ⟨b,1,none⟩ (.slice a n c)).setCell ⟨b,2,none⟩ .nilIface):=(OnlyS.ofBelow (by rw[<-Q.out];exact j.out.2.2.2.2.trans (q.mono kH))).transN (OnlyS.ofB w) (fun k bv e=>by omega);have i:=kG V (kR O (kR H am));clear a4 q ag t E F am w V O H m e0 a6 a7 j;go_upto_region 4 with fail
   generalize ((o.setCell ⟨b,0,none⟩ (.int .i64 k)).setCell ⟨b,1,none⟩ (.slice a n c)).setCell ⟨b,2,none⟩ .nilIface=y at*;clear bf N aw ba f1 bb;have a5:=bDr y;have cs:y.drew.cell? ⟨gw,3,none⟩=some (.map (some f))/\y.drew.cell? ⟨b,0,none⟩=some (.int .i64 k)/\y.drew.cell? ⟨b,1,none⟩=some (.slice a n c)/\y.drew.cell? ⟨b,2,none⟩=some .nilIface:=⟨Blk.cell i.out.1.1.k 3,Blk.cell i.out.2.2.2 0,Blk.cell i.out.2.2.2 1,Blk.cell i.out.2.2.2 2⟩;refine ay (fun l=>l.cell? ⟨gw,3,none⟩=some (.map (some f))/\l.cell? ⟨b,0,none⟩=some (.int .i64 k)/\l.cell? ⟨b,1,none⟩=some (.slice a n c)/\l.cell? ⟨b,2,none⟩=some .nilIface) (fun k=>decide (6<=k)) kO ?_;refine aa 0 cs ?_;refine aa 1 cs ?_;refine aa 2 cs ?_;refine aa 3 cs ?_;refine aa 4 cs ?_;refine aa 5 cs ?_;refine aj 6 fun a3 ac=> ?_;refine Aj y.drew _ _ _ 143 rfl 3 283 l5 underlying143 mf f B.length an rfl i.out.1.2.own ad (.int .i64 id) (.agg #[.int .i64 k,.slice a n c,.nilIface]) (.int .i64 id) rfl rfl D _ [] rfl ?_;intro A U Y;refine al ac ?_;clear ac a3;refine ax ?_;have z:=Al Q.out bl Z M S T R aX i.out.1.1 i.out.1.2 i.out.2.1 i.out.2.2.1 i.out.2.2.2 U Y;have G:Hid (∀u',Below A.1.size A u'->jR (pgD K) (CS (pgD K) w1 gw f (woC d K g f root)) (fun k=>k=f) l id (.returned (.tuple #[.int .i64 k,.slice a n c,.nilIface])) u'):=fun u' ai=>Ak R z.1 ai;have bg:A.cell? ⟨b,0,none⟩=some (.int .i64 k):=z.2.cell 0;have bh:A.cell? ⟨b,1,none⟩=some (.slice a n c):=z.2.cell 1;have bi:A.cell? ⟨b,2,none⟩=some .nilIface:=z.2.cell 2;clear U Y z i cs a5;go_upto_region 5 with fail
   go_quiet (fail)
   go_wp2_with fail;refine p6 (v:= .tuple #[.int .i64 k,.slice a n c,.nilIface]) (by simp[results,results157]) rfl (G.out _ (io kF nq))
  ·have m:=Blk.below j.out.2.2.2.1 q;have bf:o.cell? ⟨b,0,none⟩=some (.int .i64 0):=m.cell 0;have ba:=m.free 0;have E:=m.set 0 (.int .i64 k);have N:(o.setCell ⟨b,0,none⟩ (.int .i64 k)).cell? ⟨b,1,none⟩=some (.slice none 0 0):=E.cell 1;have f1:=E.free 1;have F:=E.set 1 (.slice a n c);have aw:((o.setCell ⟨b,0,none⟩ (.int .i64 k)).setCell ⟨b,1,none⟩ (.slice a n c)).cell? ⟨b,2,none⟩=some .nilIface:=F.cell 2;have bb:=F.free 2;have am:Blk (((o.setCell ⟨b,0,none⟩ (.int .i64 k)).setCell ⟨b,1,none⟩ (.slice a n c)).setCell ⟨b,2,none⟩ (errV p)) 283 b [.int .i64 k,.slice a n c,(errV p)]:=F.set 2 (errV p);have w:=((aB o b 0 (.int .i64 k)).trans (aB _ b 1 (.slice a n c))).trans (aB _ b 2 (errV p));have bj:=q.size;have V:CS (pgD K) w1 gw f (woC d K g f root) (((o.setCell ⟨b,0,none⟩ (.int .i64 k)).setCell ⟨b,1,none⟩ (.slice a n c)).setCell ⟨b,2,none⟩ (errV p))/\CaQ (pgD K) (((o.setCell ⟨b,0,none⟩ (.int .i64 k)).setCell ⟨b,1,none⟩ (.slice a n c)).setCell ⟨b,2,none⟩ (errV p)) f B an:=by
    have be:=(aW q).trans (aV w m (by decide:283≠5));have af:=(w.block f kH T).trans (q.block f kH);have L:=j.out.2.2.1.keep af be;exact⟨⟨(j.out.1.trans (q.mono j.out.1.size)).trans (w.below kH (by have:=j.out.1.size;omega)),(j.out.2.1.below q).only w S,B,an,L⟩,L⟩
   have O:=t.keep (aV w m (by decide:283≠5));have H:OnlyS (fun k=>k=f) l (((o.setCell ⟨b,0,none⟩ (.int .i64 k)).setCell ⟨b,1,none⟩ (.slice a n c)).setCell ⟨b,2,none⟩ (errV p)):=(OnlyS.ofBelow (by rw[<-Q.out];exact j.out.2.2.2.2.trans (q.mono kH))).transN (OnlyS.ofB w) (fun k bv e=>by omega);have i:=kG V (kR O (kR H am));clear a4 q ag t E F am w V O H m e0 a6 a7 j;go_upto_region 4 with fail
   generalize ((o.setCell ⟨b,0,none⟩ (.int .i64 k)).setCell ⟨b,1,none⟩ (.slice a n c)).setCell ⟨b,2,none⟩ (errV p)=y at*;clear bf N aw ba f1 bb;have a5:=bDr y;have cs:y.drew.cell? ⟨gw,3,none⟩=some (.map (some f))/\y.drew.cell? ⟨b,0,none⟩=some (.int .i64 k)/\y.drew.cell? ⟨b,1,none⟩=some (.slice a n c)/\y.drew.cell? ⟨b,2,none⟩=some (errV p):=⟨Blk.cell i.out.1.1.k 3,Blk.cell i.out.2.2.2 0,Blk.cell i.out.2.2.2 1,Blk.cell i.out.2.2.2 2⟩;refine ay (fun l=>l.cell? ⟨gw,3,none⟩=some (.map (some f))/\l.cell? ⟨b,0,none⟩=some (.int .i64 k)/\l.cell? ⟨b,1,none⟩=some (.slice a n c)/\l.cell? ⟨b,2,none⟩=some (errV p)) (fun k=>decide (6<=k)) kO ?_;refine aa 0 cs ?_;refine aa 1 cs ?_;refine aa 2 cs ?_;refine aa 3 cs ?_;refine aa 4 cs ?_;refine aa 5 cs ?_;refine aj 6 fun a3 ac=> ?_;refine Aj y.drew _ _ _ 143 rfl 3 283 l5 underlying143 mf f B.length an rfl i.out.1.2.own ad (.int .i64 id) (.agg #[.int .i64 k,.slice a n c,(errV p)]) (.int .i64 id) rfl rfl D _ [] rfl ?_;intro A U Y;refine al ac ?_;clear ac a3;refine ax ?_;have z:=Al Q.out bl Z M S T R aX i.out.1.1 i.out.1.2 i.out.2.1 i.out.2.2.1 i.out.2.2.2 U Y;have G:Hid (∀u',Below A.1.size A u'->jR (pgD K) (CS (pgD K) w1 gw f (woC d K g f root)) (fun k=>k=f) l id (.returned (.tuple #[.int .i64 k,.slice a n c,(errV p)])) u'):=fun u' ai=>Ak R z.1 ai;have bg:A.cell? ⟨b,0,none⟩=some (.int .i64 k):=z.2.cell 0;have bh:A.cell? ⟨b,1,none⟩=some (.slice a n c):=z.2.cell 1;have bi:A.cell? ⟨b,2,none⟩=some (errV p):=z.2.cell 2;clear U Y z i cs a5;go_upto_region 5 with fail
   go_quiet (fail)
   go_wp2_with fail;refine p6 (v:= .tuple #[.int .i64 k,.slice a n c,(errV p)]) (by simp[results,results157]) rfl (G.out _ (io kF nq))
def FlP(K:DK)(fr:Int)(w:World)(e:Ending)(w':World):Prop:=Below w.1.size w w'/\∃(fs own:List Int)(ok:Bool)(a:Option Addr)(c:Nat)(a2:Option Addr)(c2:Nat),e= .returned (.tuple #[.slice a fs.length c,.slice a2 own.length c2,.bool ok])/\Own1 3 w.1.size w' a fs.length c (on fs)/\Own1 3 w.1.size w' a2 own.length c2 (on own)/\fs.length<=65536/\own.length<=1024/\((flT K fr=some (fs,own)/\ok=true)\/(flT K fr=none/\ok=false))
theorem Am{K fr w a}(b:Below w.1.size w a)(f:flT K fr=none):FlP K fr w (.returned (.tuple #[.slice (some ⟨a.1.size,0,none⟩) 0 0,.slice (some ⟨a.1.size+1,0,none⟩) 0 0,.bool false])) ((a.alloc (.cells #[] 3)).alloc (.cells #[] 3)):=by
 have g:=bAl a (.cells #[] 3);have e:Below (a.alloc (.cells #[] 3)).1.size (a.alloc (.cells #[] 3)) ((a.alloc (.cells #[] 3)).alloc (.cells #[] 3)):=bAl _ _;have h:(a.alloc (.cells #[] 3)).1.size=a.1.size+1:=by simp
 have c:=b.size;have d:=lY 3 w.1.size (a.alloc (.cells #[] 3)) kH;rw[h]at d;exact⟨(b.trans (g.mono c)).trans (e.mono kH),[],[],false,_,0,_,0,rfl,(lY 3 w.1.size a c).below e,d,kP,kP,kT ⟨f,rfl⟩⟩
structure FI(w:World)(d:DV)(K:DK)(gv cv vb sb:Nat)(fr:Int)(fs own:List Int)(a a2:Option Addr)(c c2:Nat)(last id:Int)(wr:World):Prop where
 s:FS w d K gv cv vb sb fs own a a2 c c2 wr
 ok:SeenOk own (nPg K)
 lf:fs.length<=64*own.length
 la:last=fs.getLastD 0
 eq:flR (pgD K) (nPg K+1) fr [] []=flR (pgD K) (nPg K+1-own.length) id own fs
theorem Na(a n c):prog.built 249 [(0,.slice a n c)]=some #[.slice a n c]:=kO
theorem Lj(d K ak root N fr w)(h:RDisk w d K):
 Calls prog 142 #[bC d K,.agg (eG ak root N fr).toArray] w (FlP K fr w):=by
 have a8:Hid (∀dA,Below w.1.size w dA->RDisk dA d K):=fun dA b=>h.below b;obtain⟨ab,U⟩:∃ch,ch=w.alloc (.cells #[.slice d.sa K.n d.sc,.slice d.pa K.m d.pc] 37):=⟨_,rfl⟩;obtain⟨aw,V⟩:∃ch,ch=ab.alloc (.cells (eG ak root N fr).toArray 38):=⟨_,rfl⟩;obtain⟨aH,W⟩:∃ch,ch=aw.alloc (.cells #[] 3):=⟨_,rfl⟩;obtain⟨bH,X⟩:∃ch,ch=aH.alloc (.cells #[] 3):=⟨_,rfl⟩;have cv:Below w.1.size w ab:=by rw[U];exact bAl _ _
 have cw:Below ab.1.size ab aw:=by rw[V];exact bAl _ _
 have q3:Below aw.1.size aw aH:=by rw[W];exact bAl _ _
 have cx:Below aH.1.size aH bH:=by rw[X];exact bAl _ _
 have cD:ab.1.size=w.1.size+1:=by rw[U];simp
 have cE:aw.1.size=w.1.size+1+1:=by rw[V];simp[cD]
 have cF:aH.1.size=w.1.size+1+1+1:=by rw[W];simp[cE]
 have bE:=q3.trans (cx.mono q3.size);have bz:=cw.trans (bE.mono cw.size);have cr:=(by rw[U];exact ao w _ _:Blk ab 37 w.1.size [.slice d.sa K.n d.sc,.slice d.pa K.m d.pc]).below bz;have dn:=(by rw[V,<-cD];exact ao ab _ _:Blk aw 38 (w.1.size+1) (eG ak root N fr)).below bE;have cb:=(by rw[W,<-cE];exact lY _ _ _ kH:Own1 3 w.1.size aH (some ⟨w.1.size+1+1,0,none⟩) 0 0 []).below cx;have cc:Own1 3 w.1.size bH (some ⟨w.1.size+1+1+1,0,none⟩) 0 0 []:=by rw[X,<-cF];exact lY _ _ _ kH
 have bx:=cv.trans (bz.mono cv.size);have cA:(prog.info? 37).map (·.size)=some (#[Value.slice d.sa K.n d.sc,Value.slice d.pa K.m d.pc]:Array Value).size:=nu;have bd:=rT d K bH (h.below bx);have a7:=kG bx (kR cb cc);have eH:w.1.size+1+1+1<bH.1.size:=by rw[X];simp[cF]
 unfold bC at bd ⊢;clear cv cw q3 cx cD cE cF bE bz cb cc bx;go_enter func142,ntmps142;go_upto_region 3 with fail
 change Code.wp _ _ _ _ ((((w.alloc (.cells #[.slice d.sa K.n d.sc,.slice d.pa K.m d.pc] 37)).alloc (.cells (eG ak root N fr).toArray 38)).alloc (.cells #[] 3)).alloc (.cells #[] 3));rw[<-U,<-V,<-W,<-X];clear U V W X;go_wp2_with (refine qi rfl 37 _ rfl w.1.size rfl 37 #[.slice d.sa K.n d.sc,.slice d.pa K.m d.pc] (0,0) _ cr sB rfl cA ?_);refine bd.mono ?_;rintro e dD ⟨rfl,ac⟩;have bt:=cr.below ac;have b9:=dn.below ac;have cR:=a7.out.1.trans (ac.mono a7.out.1.size);have t:=kG cR (kR (a7.out.2.1.below ac) (a7.out.2.2.below ac));have eK:=ac.size;clear bd cr dn ac cR a7;cases Y:bK K with
 |false=>
  have bi:Hid (flT K fr=none):=by show flT K fr=none;unfold flT;rw[Y]
  clear Y;go_wp2_with fail;refine p6 (v:= .tuple #[.slice (some ⟨w.1.size+1+1,0,none⟩) 0 0,.slice (some ⟨w.1.size+1+1+1,0,none⟩) 0 0,.bool false]) (by simp[results,results142]) rfl ?_;exact⟨t.out.1,[],[],false,_,0,_,0,rfl,t.out.2.1,t.out.2.2,kP,kP,kT ⟨bi.out,rfl⟩⟩
 |true=>
  have I:=jj Y;have cM:=jS (a8.out w kF) I;have c0:=I.1.2.1;have ek:=cM.le;have bi:Hid (flT K fr=flR (pgD K) (nPg K+1) fr [] []):=by show flT K fr= _;unfold flT;rw[Y]
  clear Y;have bc:=wW d K dD (a8.out dD t.out.1) I;unfold bC at bc;go_wp2_with (refine qi rfl 37 _ rfl w.1.size rfl 37 #[.slice d.sa K.n d.sc,.slice d.pa K.m d.pc] (0,0) _ bt sB rfl cA ?_);refine bc.mono ?_;rintro e ah ⟨r,B,rfl,ck,cu⟩;have cB:=xh (a8.out w kF) I cu;have b4:∃cs,ah.heap[r]?=some (.cells cs 70 (0,0)):=by
   rcases cu.2 with⟨ad,_⟩|⟨g1,d2,d3,ad,_,c4,_⟩
   ·cases ad
   ·cases ad;exact⟨_,c4⟩
  have bR:=bAl ah (.cells #[.slice (some ⟨r,0,none⟩) K.n B] 249);have dl:=ao ah 249 #[.slice (some ⟨r,0,none⟩) K.n B];have dB:=ck.trans (bR.mono ck.size);have dC:=cB.below bR;have b5:∃cs,(ah.alloc (.cells #[.slice (some ⟨r,0,none⟩) K.n B] 249)).heap[r]?=some (.cells cs 70 (0,0)):=by obtain⟨cs,a3⟩:=b4;exact⟨cs,(bR.block r cB.1).trans a3⟩
  have J:=kG dB (kR dC (kR b5 dl));clear bc ck cu cB bR b4 dl dB dC b5;go_upto_region 6 with fail
  change Code.wp _ _ _ _ (ah.alloc (.cells #[.slice (some ⟨r,0,none⟩) K.n B] 249));generalize ah.alloc (.cells #[.slice (some ⟨r,0,none⟩) K.n B] 249)=dF at*;generalize ah.1.size=a4 at*;have b8:=bt.below J.out.1;have ca:=b9.below J.out.1;have be:=nw d K dF c0;unfold bC at be;have df:=J.out.1.size;clear bt b9;go_wp2_with (refine qi rfl 37 _ rfl w.1.size rfl 37 #[.slice d.sa K.n d.sc,.slice d.pa K.m d.pc] (0,0) _ b8 sB rfl cA ?_);refine be.mono ?_;rintro e A ⟨rfl,S⟩;have dE:=nj (nPg K) kH A;have dv:=bAl A (.cells (madeCells #[.bool false] (nPg K)) 4);have dr:=nk w.1.size (nPg K) kH A (by have:=S.size;have:=t.out.1.size;omega);have G:=S.trans (dv.mono S.size);have bS:=J.out.1.trans (G.mono df);have b1:FS w d K r B a4 A.1.size [] [] (some ⟨w.1.size+1+1,0,none⟩) (some ⟨w.1.size+1+1+1,0,none⟩) 0 0 (A.alloc (.cells (madeCells #[.bool false] (nPg K)) 4)):=
   ⟨t.out.1.trans (bS.mono t.out.1.size),t.out.2.1.below bS,t.out.2.2.below bS,dr,J.out.2.1.below G,by obtain⟨cs,a3⟩:=J.out.2.2.1;exact⟨cs,(G.block r J.out.2.1.1).trans a3⟩,Blk.below J.out.2.2.2 G,fun g ad d4=>by simp at ad d4;omega⟩
  have d1:(A.alloc (.cells (madeCells #[.bool false] (nPg K)) 4)).cell? ⟨w.1.size+1,3,none⟩=some (.int .i64 fr):=(ca.below G).cell 3;have cH:Hid (FI w d K r B a4 A.1.size fr [] [] (some ⟨w.1.size+1+1,0,none⟩) (some ⟨w.1.size+1+1+1,0,none⟩) 0 0 0 fr (A.alloc (.cells (madeCells #[.bool false] (nPg K)) 4))):=⟨b1,⟨o0,kP⟩,kP,rfl,rfl⟩;clear be S dv dr G bS b1 b8 ca J t;go_upto_region 9 with fail
  change Code.wp _ _ _ _ (A.alloc (.cells (madeCells #[.bool false] (nPg K)) 4));generalize A.alloc (.cells (madeCells #[.bool false] (nPg K)) 4)=eL at*;generalize A.1.size=sb at*;clear d1 dE;go_loopw [7,8,11,12] (fun cy cz bF dx wr=> ∃(q f:List Int)(a aO:Option Addr)(c aX:Nat)(M id:Int),cy= .slice a q.length c/\cz= .slice aO f.length aX/\bF= .int .i64 M/\dx= .int .i64 id/\FI w d K r B a4 sb fr q f a aO c aX M id wr) (fun _ cz _ _ _=>nPg K+1-qd cz)
  case atStart=>exact⟨[],[],_,_,0,0,0,fr,rfl,rfl,rfl,rfl,cH.out⟩
  case round=>
   obtain⟨q,f,a,aO,c,aX,M,id,rfl,rfl,rfl,rfl,ae⟩:=hrel;obtain⟨cC,rfl⟩:∃x,x=wr:=⟨_,rfl⟩;have eA:=ae.ok.le;have ep:=ae.lf;have O:Hid _:=ae;have cP:cC.cell? ⟨a4,0,none⟩=some (.slice (some ⟨r,0,none⟩) K.n B):=ae.s.k.cell 0;have cg:=xg d K id r B cC (a8.out cC ae.s.b) I ae.s.v;clear ae;by_cases bh:id=0
   ·subst bh;have cp:Hid (flT K fr=some (q,f)):=by show flT K fr=some (q,f);rw[bi.out,O.out.eq,zE]
    clear cg cP;go_wp2_with fail;refine p6 (v:= .tuple #[.slice a q.length c,.slice aO f.length aX,.bool true]) (by simp[results,results142]) rfl ?_;exact⟨O.out.s.b,q,f,true,a,c,aO,aX,rfl,O.out.s.f,O.out.s.o,kH,kH,kV ⟨cp.out,rfl⟩⟩
   have bq:Hid (flT K fr=flR (pgD K) (nPg K-f.length+1) id f q):=by
    show flT K fr=flR (pgD K) (nPg K-f.length+1) id f q;rw[bi.out,O.out.eq];congr 1;omega
   have ej:(id==0)=false:=by simp[bh]
   go_wp2_with fail;refine cg.mono ?_;rintro e w1 ⟨eN,a0,rfl,cO,cd⟩;have ai:=O.out.s.below cO;have bs1:=Ae cd (rY (a8.out w kF) id);have c1:=mN I id;have o:Hid (fX (pgD K) f id=false->FlP K fr w (.returned (.tuple #[.slice (some ⟨w1.1.size,0,none⟩) 0 0,.slice (some ⟨w1.1.size+1,0,none⟩) 0 0,.bool false])) ((w1.alloc (.cells #[] 3)).alloc (.cells #[] 3))):=fun ea=>Am ai.b (by rw[bq.out,zF bh ea]);have ar:=ai.m;have F:=kG ai bs1;have u:Hid (fX (pgD K) f id=true↔vB K id=true/\vK K id=4/\id∉f/\4<=(vL K id).length/\(vL K id).length%4=0):=lZ;generalize c9:vL K id=l at bs1 c1 u F ⊢;generalize c8:vK K id=kd at u ⊢;have cL:Hid (vL K id=l):=c9;clear cg cP cO cd ai bs1 c9 c8;cases z:vB K id with
   |false=>
    have n:Hid _:=o.out (by rw[<-nl,u.out,z];intro h;exact absurd h.1 kN);clear ar z;go_wp2_with fail;refine p6 (v:= .tuple #[.slice (some ⟨w1.1.size,0,none⟩) 0 0,.slice (some ⟨w1.1.size+1,0,none⟩) 0 0,.bool false]) (by simp[results,results142]) rfl n.out
   |true=>
   have eq:=cM.ok id (show vB K id=true from z);by_cases bn:kd=4
   rotate_left
   ·have d7:(kd==4)=false:=by simp[bn]
    have n:Hid _:=o.out (by rw[<-nl,u.out];intro h;exact bn h.2.1);clear ar z;go_wp2_with fail;refine p6 (v:= .tuple #[.slice (some ⟨w1.1.size,0,none⟩) 0 0,.slice (some ⟨w1.1.size+1,0,none⟩) 0 0,.bool false]) (by simp[results,results142]) rfl n.out
   subst bn;obtain⟨i,rfl⟩:∃i:Nat,id=(i:Int):=⟨id.toNat,kH⟩;have bl:i<nPg K:=kH;obtain⟨_,ad,eC,eb,⟨co,am⟩,a3⟩:=ar.at_ kH;cases ad;have cG:Hid (w1.heap[sb]?=some (.cells co 4 (0,0))):=am;clear am;have cn:=(a3 i bl).trans (rx some (kU f (nPg K) i bl));clear a3 ar;cases y:f.contains (i:Int)with
   |true=>
    rw[y]at cn;have n:Hid _:=o.out (by rw[<-nl,u.out];intro h;exact h.2.2.1 (m9.1 y));clear y z;go_wp2_with fail;refine p6 (v:= .tuple #[.slice (some ⟨w1.1.size,0,none⟩) 0 0,.slice (some ⟨w1.1.size+1,0,none⟩) 0 0,.bool false]) (by simp[results,results142]) rfl n.out
   |false=>
   rw[y]at cn;have b3:(i:Int)∉f:=fun h=>by rw[m9.2 h]at y;cases y
   by_cases eP:l.length<4
   ·have n:Hid _:=o.out (by rw[<-nl,u.out];intro h;omega);have cS:(l.length:Int)<4:=kH;clear y z;go_wp2_with fail;refine p6 (v:= .tuple #[.slice (some ⟨w1.1.size,0,none⟩) 0 0,.slice (some ⟨w1.1.size+1,0,none⟩) 0 0,.bool false]) (by simp[results,results142]) rfl n.out
   have cS:¬(l.length:Int)<4:=kH;by_cases bN:l.length%4=0
   rotate_left
   ·have n:Hid _:=o.out (by rw[<-nl,u.out];intro h;omega);have cT:((l.length:Int)%4 !=0)=true:=by simp;omega
    have t:Hid _:=bN;clear bN;clear y z;go_wp2_with fail;refine p6 (v:= .tuple #[.slice (some ⟨w1.1.size,0,none⟩) 0 0,.slice (some ⟨w1.1.size+1,0,none⟩) 0 0,.bool false]) (by simp[results,results142]) rfl n.out
   have cT:((l.length:Int)%4 !=0)=false:=by simp;omega
   have t:Hid (l.length%4=0):=bN;have bj:=F.out.1.m.free i;clear y bN;go_upto_region 13 with fail
   go_upto_region 14 with fail
   have ct:=aB w1 sb i (.bool true);have bu:∀eh,4≠eh->KeepT eh w1 (w1.setCell ⟨sb,i,none⟩ (.bool true)):=fun eh ef=>iN ct cG.out ef;have bw:=F.out.1.o.keep (bu _ kN);have dd:w.1.size<=(w1.setCell ⟨sb,i,none⟩ (.bool true)).1.size:=by have:=ct.size;omega
   have b7:(w1.setCell ⟨sb,i,none⟩ (.bool true)).1.size=w1.1.size:=by simp
   generalize b2:w1.setCell ⟨sb,i,none⟩ (.bool true)=ci at*;have bb:Hid (w1.setCell ⟨sb,i,none⟩ (.bool true)=ci/\ci.1.size=w1.1.size):=⟨b2,b7⟩;clear b7 b2;go_upto_region 15 with(first|(at_builtin;refine i5 rfl _ _ ig rfl w.1.size aO f.length aX (on f) rfl bw (.int .i64 (i:Nat)) rfl rfl kH kH dd ?_;intro g2 cm eV ds dG bg bf)|fail)
   rw[bb.out.2]at bf;have bY:=F.out.1.appO bl ds (by rw[bb.out.1];exact bg) bf;have q3:=bAl ci (.cells #[.int .i64 (i:Nat)] 3);have H:=F.out.2.keep (((bu _ kN).trans (aW q3)).trans (bJ (cj bw q3) bg kN));obtain⟨cl,off,rfl,_,_⟩:=H.bs.at_ (by have:=H.bs.len_eq;omega);have em:=H.bs.le;have c2:=H.bs.le';unfold maxLen at c2;have af:=O.out.ok.snoc kH kH b3;have da:=af.le;rw[kY,oB]at da;have ba:Hid (fX (pgD K) f (i:Int)=true):=u.out.2 ⟨z,True.intro,b3,kH,t.out⟩;have ce:=kG bY (kR H af);clear ct bu bw ds dG bg bf bY q3 H af F o u cn z bj bb;go_upto_region 16 with fail
   go_loopw [7,11,16] (fun cy bF dy wr=> ∃(j k:Nat)(m:List Int)(Q:Option Addr)(T:Nat)(p:Int),cy= .slice Q m.length T/\bF= .int .i64 p/\dy= .int .i64 (j:Nat)/\j=4*k/\1<=k/\j<=l.length/\FS w d K r B a4 sb m (f++[(i:Int)]) Q (some ⟨g2,0,none⟩) T cm wr/\BsT wr (some ⟨cl,off,none⟩) l.length a0 l/\m.length+1=q.length+k/\p=m.getLastD 0/\frA (dz l 1) q=frA (dz l k) m) (fun _ _ s _=>l.length-(intOf s).toNat)
   case atStart=>exact⟨4,1,q,a,c,M,rfl,rfl,rfl,rfl,kH,kH,ce.out.1,ce.out.2.1,rfl,O.out.la,rfl⟩
   case round=>
    obtain⟨j,k,m,Q,T,p,rfl,rfl,rfl,bP,es,er,a2,a1,bk,ap,an⟩:=hrel;obtain⟨wI,rfl⟩:∃x,x=wr:=⟨_,rfl⟩;have b6:=a2.b.size;have E:=kG a2 (kR a1 (kR ap an));have cf:Hid (j=4*k):=bP;have b0:Hid _:=bk;by_cases ex:j<l.length
    ·have d8:(j:Int)< (l.length:Int):=kH;have cV:=t.out;have c5:j+4<=l.length:=kH;have Z:=iR (some ⟨cl,off+j,none⟩) 4 (a0-j) ((l.drop j).take 4) wI (a1.bs.piece j 4 c5 (a0-j) kH (by unfold maxLen;omega)) kH;rw[show low ((l.drop j).take 4)=eQ l k by rw[bP];rfl]at Z;have L:Hid (dz l k=eQ l k::dz l (k+1)):=zD kH;have en:¬a0=j:=kH;have P:=a2.f;have cq:m.length<=65536:=kH;clear bP a2 a1 ap an cV bk;generalize eQ l k=x at*;go_upto_region 19 with fail
     refine Z.mono ?_;rintro e dA ⟨rfl,bs⟩;obtain rfl:=bs.symm;clear bs Z;go_upto_region 19 with fail
     rcases o6 m.length with hf0|hf0
     ·have c3:=oT hf0;subst c3;have P:Own1 3 w.1.size wI Q 0 T (on []):=P;have a9:Hid (frA (dz l 1) q=frA (dz l (k+1)) ([]++[x])):=by
       show frA (dz l 1) q=frA (dz l (k+1)) ([]++[x]);rw[E.out.2.2.2,L.out,frA,q4 (fun h=>h.1 rfl)]
      clear hf0 cq;go_wp2_with (at_builtin;refine i5 rfl _ _ ig rfl w.1.size Q 0 T (on []) rfl P (.int .i64 x) rfl rfl kH kH b6 ?_);intro d5 dW A bv S D R;have a6:=E.out.1.appF bv D R;have ag:=bAl wI (.cells #[.int .i64 x] 3);have a5:=E.out.2.1.keep ((aW ag).trans (bJ (cj P ag) D kN));have C:=kG a6 a5;clear bv S D R ag a6 a5 P;go_wp2_with fail;go_roundw
      case rel=>have c6:=cf.out;have bj:=b0.out;exact⟨j+4,k+1,[]++[x],_,_,x,by rw[kY];rfl,rfl,by go_num,kH,kH,kH,C.out.1,C.out.2,by rw[kY,oB];omega,kP,a9.out⟩
      case measure=>simp[intOf];omega
     ·have d6:(0:Int)< (m.length:Int):=kH;have bp:m≠[]:=fun e=>by rw[e]at hf0;exact absurd hf0 (oP _)
      by_cases dc:x<=p
      ·have n:Hid _:=Am (K:=K) (fr:=fr) E.out.1.b (by
        have d9:m≠[]/\x<=m.getLastD 0:=⟨bp,by rw[<-E.out.2.2.1];exact dc⟩;rw[bq.out,qc bh ba.out,show(pgD K).bd (i:Int)=l from cL.out,E.out.2.2.2,L.out,frA,qb d9];rfl)
       clear hf0 bp;go_wp2_with fail;refine p6 (v:= .tuple #[.slice (some ⟨wI.1.size,0,none⟩) 0 0,.slice (some ⟨wI.1.size+1,0,none⟩) 0 0,.bool false]) (by simp[results,results142]) rfl n.out
      ·have a9:Hid (frA (dz l 1) q=frA (dz l (k+1)) (m++[x])):=by
        show frA (dz l 1) q=frA (dz l (k+1)) (m++[x]);rw[E.out.2.2.2,L.out,frA,q4 (fun h=>by have:=h.2;rw[<-E.out.2.2.1]at this;omega)]
       clear hf0 bp;go_wp2_with (at_builtin;refine i5 rfl _ _ ig rfl w.1.size Q m.length T (on m) rfl P (.int .i64 x) rfl rfl kH kH b6 ?_);intro d5 dW A bv S D R;have a6:=E.out.1.appF bv D R;have ag:=bAl wI (.cells #[.int .i64 x] 3);have a5:=E.out.2.1.keep ((aW ag).trans (bJ (cj P ag) D kN));have C:=kG a6 a5;clear bv S D R ag a6 a5 P;go_wp2_with fail;go_roundw
       case rel=>have c6:=cf.out;have bj:=b0.out;exact⟨j+4,k+1,m++[x],_,_,x,by rw[kY];rfl,rfl,by go_num,kH,kH,kH,C.out.1,C.out.2,by rw[kY,oB];omega,kP,a9.out⟩
       case measure=>simp[intOf];omega
    ·have c7:j=l.length:=kH;have ey:¬(j:Int)< (l.length:Int):=kH;have Z:=iR (some ⟨cl,off,none⟩) 4 a0 (l.take 4) wI (by have:=a1.bs.piece 0 4 kH a0 kH a1.bs.le';simpa using this) kH;rw[show low (l.take 4)=eQ l 0 by simp[eQ]]at Z;have C:Hid (FI w d K r B a4 sb fr m (f++[(i:Int)]) Q (some ⟨g2,0,none⟩) T cm p (eQ l 0) wI):=by
      refine⟨a2,ce.out.2.2,by rw[kY,oB];omega,ap,?_⟩;rw[<-bi.out,bq.out,qc bh ba.out,show(pgD K).bd (i:Int)=l from cL.out,an,zC kH,frA];show flR (pgD K) (nPg K-f.length) _ _ _= _;congr 1;rw[kY,oB];omega
     clear c7 bP a2 a1 ap an cf bk;go_wp2_with fail;refine Z.mono ?_;rintro e dA ⟨rfl,bs⟩;obtain rfl:=bs.symm;clear bs Z;go_wp2_with fail;go_roundw
     case rel=>exact⟨m,f++[(i:Int)],Q,some ⟨g2,0,none⟩,T,cm,p,eQ l 0,rfl,by rw[kY];rfl,rfl,rfl,C.out⟩
     case measure=>simp only[qd];omega
