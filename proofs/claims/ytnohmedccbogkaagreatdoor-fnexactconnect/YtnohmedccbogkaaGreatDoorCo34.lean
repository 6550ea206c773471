import Derived.Test.YtnohmedccbogkaaGreatDoorCo32
namespace Go.Proofs.YtnohmedccbogkaaGreatDoor
open Go.RowKit
set_option linter.unusedVariables false
set_option maxRecDepth 100000
set_option maxHeartbeats 32000000
section
variable {S:World->Prop} {X:Nat->Prop} {B0 ty gw N:Nat} {P:Pg}
theorem Ls(a b):(Op.bytesLess a.toList b.toList||a.toList==b.toList)=sle a b:=by
 have h:=lX a b;show _= !sl b a;rw[<-h];cases Op.bytesLess a.toList b.toList<;>cases (a.toList==b.toList)<;>rfl
theorem Lt{r s id ls d a e}(h:rdK r ((s,id)::ls) d=some (e,a)):hdS e=some s:=by
 rw[rdK]at h;obtain⟨x,f,b⟩:=m5.1 h;obtain⟨y,g,c⟩:=m5.1 b;cases c
 rfl
theorem Lu(aO:Src P B0 ty 157 (.pointer (some ⟨gw,0,none⟩)) S X)(fr most id steps f)(ca:GaC P S X B0 (.pointer (some ⟨gw,0,none⟩)) fr most f)(bS:P.ok id=true)(bP:P.kd id=3)(cc:0<=id)(cd:id<4294967296)(bN:(P.bd id).length<=1048576)(ls)(ak:inP (P.bd id)=some ls)(b6 a6 ks)(p:rdK (rdT P f steps) ls b6=some (ks,a6))(a4:full ks true)(am:inn ks true)(xs a c B w)(bH:S w)(bR:ORow 93 2 B w a xs.length c (enF xs))(a2:B0<=B)(ce:B<=w.1.size)(ba:xs.length+(aM ks).length<=1048576):
 Calls Tryz.prog 93 #[.pointer (some ⟨gw,0,none⟩),.slice a xs.length c,.int .i64 id,.string fr,.int .i64 most] w fun e w'=> ∃A G,e= .returned (.slice A (scL fr most xs (aM ks)).length G)/\GaQ S X B w a (scL fr most xs (aM ks)) A G w':=by
 have bu:=aO.page w id bH cc cd;have ad:=kG bR (kR ak (kR p (kR a4 am)));have ci:=pQ ak;clear bR ak bH p a4 am;go_enter Tryz.func93,Tryz.ntmps93;go_wp2_with fail;refine bu.mono ?_;clear bu;rintro e t ⟨b4,bg,⟨_,ab,ac,rfl,ah⟩|⟨Q,_⟩⟩
 rotate_left
 ·rw[bS]at Q;cases Q
 rw[bP];have bi:=bAl t (.cells #[.slice ab (P.bd id).length ac] 162);have b1:=ao t 162 #[.slice ab (P.bd id).length ac];have af:Cur (t.alloc (.cells #[.slice ab (P.bd id).length ac] 162)) t.1.size t.1.size (P.bd id):=⟨ab,(P.bd id).length,ac,⟨b1,ah.bs.below bi,ah.bs.blt⟩⟩;have bl:=yN t.1.size t.1.size (P.bd id) _ af bi.size bN;have cw:=bg.size;have bp:=kG b4 bg;have b9:Hid ((t.alloc (.cells #[.slice ab (P.bd id).length ac] 162)).1.size=t.1.size+1):=by show(t.alloc (.cells #[.slice ab (P.bd id).length ac] 162)).1.size=t.1.size+1;simp
 clear b4 bg ah bi b1 af;go_wp2_with fail;refine bl.mono ?_;rintro e cp ⟨bh,⟨cy,cn,bf,U,rfl,hr⟩|⟨Q,_⟩⟩
 rotate_left
 ·exfalso;rw[ad.out.2.1]at Q;cases Q
 rw[ad.out.2.1]at U;obtain rfl:=sv U;have bn:=GaQ.start aO a2 ce ad.out.1 bp.out.1 bp.out.2 bh;have cx:t.1.size+1<=cp.1.size:=by have:=bh.size;have:=b9.out;omega
 have bq:=kG bn hr;clear bl bh U bn hr;go_wp2_with fail;go_loopw [1,60] (fun co b5 wr=> ∃(i:Nat)(A:Option Addr)(G:Nat)(d:List (ByteArray×ByteArray))(F:St)(l:Tr),co= .slice A d.length G/\b5= .int .i64 (i:Nat)/\i<=ls.length/\GaQ S X B w a d A G wr/\ORow 230 2 B wr cn ls.length bf (lnF ls)/\rdK (rdT P f steps) (ls.drop i) F=some (l,a6)/\(full l (i==0)/\inn l (i==0))/\scL fr most xs (aM ks)=scL fr most d (aM l)/\d.length+(aM l).length<=1048576) (fun _ s _=>ls.length-(intOf s).toNat)
 case atStart=>exact⟨0,a,c,xs,b6,ks,rfl,rfl,kX _,bq.out.1,bq.out.2.mono (by have:=b9.out;omega),ad.out.2.2.1,ad.out.2.2.2,rfl,ba⟩
 case round=>
  obtain⟨i,A,G,d,F,l,rfl,rfl,cz,ag,hr,p,o,r,aH⟩:=hrel;obtain⟨u,rfl⟩:∃x,x=wr:=⟨_,rfl⟩;have cu:=ag.fr.size;by_cases ap:i<ls.length
  ·have ck:(i:Int)< (ls.length:Int):=kH;obtain⟨b,rfl,cq,cf⟩:=ip hr kH;have W:=fun m v cm=>(hr.reads (tG ls _)).cells i ap m v cm;rw[show lnF ls i=[.string (ls.getD i l0).1,.int .i64 (ls.getD i l0).2]from rfl]at W;have a3:ls.drop i=ls.getD i l0::ls.drop (i+1):=by
    rw[oF ap];simp[List.getD,ap]
   generalize ls.getD i l0=cb at*;obtain⟨E,g⟩:=cb;have bw:u.cell? ⟨b,i*2,none⟩=some (.string E):=by have:=W 0 _ rfl;simpa using this
   have bx:u.cell? ⟨b,i*2+1,none⟩=some (.int .i64 g):=by have:=W 1 _ rfl;simpa using this
   rw[a3,rdK]at p;obtain⟨x,ar,aw⟩:=m5.1 p;obtain⟨y,I,b0⟩:=m5.1 aw;cases b0;obtain⟨L,bk⟩:=x;obtain⟨b7,b8⟩:=y;dsimp only at I aH r o ar p aw;rw[full,inn]at o;rw[aM,An]at r;rw[aM,kY]at aH;have b2:=ao u 230 #[.string E,.int .i64 g];have aX:=bAl u (.cells #[.string E,.int .i64 g] 230);have be:d.length<=1048576:=kH;have Z:=ag.below aO aX kH;have V:=hr.below aX;have cv:=aX.size;have q:Hid (scL fr most d (aM L)=d->∃(n:Nat)(C:Option Addr)(D:Nat)(j:List (ByteArray×ByteArray))(F:St)(l:Tr),Value.slice A d.length G= .slice C j.length D/\Value.int .i64 ((i:Int)+1)= .int .i64 (n:Nat)/\n<=ls.length/\GaQ S X B w a j C D (u.alloc (.cells #[.string E,.int .i64 g] 230))/\ORow 230 2 B (u.alloc (.cells #[.string E,.int .i64 g] 230)) (some ⟨b,0,none⟩) ls.length bf (lnF ls)/\rdK (rdT P f steps) (ls.drop n) F=some (l,b8)/\(full l (n==0)/\inn l (n==0))/\scL fr most xs (aM ks)=scL fr most j (aM l)/\j.length+(aM l).length<=1048576):=fun cl=>
    ⟨i+1,A,G,d,bk,b7,rfl,by go_num,kH,Z,V,I,⟨o.1.2.2.2.2,o.2.2.2.2⟩,by rw[r,cl],kH⟩
   have T:=ca steps g F bk L d A G B _ ar o.1.2.2.2.1 o.2.1 Z.src Z.own a2 kH kH;have z:Hid (∀M N w',GaQ S X B (u.alloc (.cells #[.string E,.int .i64 g] 230)) A (scL fr most d (aM L)) M N w'->∃(n:Nat)(C:Option Addr)(D:Nat)(j:List (ByteArray×ByteArray))(F:St)(l:Tr),Value.slice M (scL fr most d (aM L)).length N= .slice C j.length D/\Value.int .i64 ((i:Int)+1)= .int .i64 (n:Nat)/\n<=ls.length/\GaQ S X B w a j C D w'/\ORow 230 2 B w' (some ⟨b,0,none⟩) ls.length bf (lnF ls)/\rdK (rdT P f steps) (ls.drop n) F=some (l,b8)/\(full l (n==0)/\inn l (n==0))/\scL fr most xs (aM ks)=scL fr most j (aM l)/\j.length+(aM l).length<=1048576):=fun M N w' O=>by
    have ct:=ny fr most (aM L) d;refine⟨i+1,M,N,_,bk,b7,rfl,by go_num,kH,Z.trans O,?_,I,⟨o.1.2.2.2.2,o.2.2.2.2⟩,r,kH⟩;exact iB V (fun k a8=>O.fr.block k (dw V k a8).2 (fun e=>by
     rcases e with e|e
     ·have:=aO.low k e;have:=(dw V k a8).1;omega
     ·exact zp Z.own V kN k e k a8 rfl))
   have a0:Hid (∀R Y b3,ls.drop (i+1)=(R,Y)::b3->sle R fr=true->scL fr most d (aM L)=d):=fun R Y b3 cg bY=>Ao (fun e ch=>by
    rw[cg]at I;have a7:=o.2.2.2.1 e.1 (by rw[nz];exact oj.2 ⟨e,ch,rfl⟩) R (Lt I);exact qI a7 bY)
   have bc:=ny fr most (aM L) d;have a1:Hid (¬(d.length:Int)<most->scL fr most d (aM L)=d):=fun h=>tQ kH;have H:Hid (i+1<ls.length->(u.alloc (.cells #[.string E,.int .i64 g] 230)).cell? ⟨b,(i+1)*2,none⟩=some (.string (ls.getD (i+1) l0).1)):=fun h=>by
    have a7:=(V.reads (tG ls _)).cells (i+1) h 0 _ rfl;simpa using a7
   clear W ag hr Z V aX p aw ar I o r aH a3 bc;go_upto_region 15 with(first|(refine aL rfl 230 _ _ rfl u #[.string (strOfNums []),.int .i64 0] #[.string E,.int .i64 g] 230 rfl rfl zn rfl rfl ?_))
   change Code.wp _ _ _ _ (u.alloc (.cells #[.string E,.int .i64 g] 230));generalize u.alloc (.cells #[.string E,.int .i64 g] 230)=bv at*;generalize cr:u.1.size=bE at*;have J:Blk bv 230 bE [.string E,.int .i64 g]:=b2;have ae:bv.cell? ⟨bE,1,none⟩=some (.int .i64 g):=J.cell 1;clear b2 bw bx;by_cases an:i+1<ls.length
   ·have a9:(i:Int)+1< (ls.length:Int):=kH;have bz:=H.out an;have ai:ls.drop (i+1)=ls.getD (i+1) l0::ls.drop (i+1+1):=by
     rw[oF an];simp[List.getD,an]
    generalize ls.getD (i+1) l0=bF at*;obtain⟨R,Y⟩:=bF;have bt:Hid (sle R fr=true->scL fr most d (aM L)=d):=fun h=>a0.out R Y _ ai h;clear ai a0;go_upto_region 16 with fail
    rw[Ls];cases bd:sle R fr with
    |true=>
     have K:Hid _:=q.out (bt.out bd);clear T z q ae J bz H;go_wp2_with fail;go_roundw
     case rel=>exact K.out
     case measure=>simp[intOf];omega
    |false=>
     clear bz;by_cases bb:(d.length:Int)<most
     ·clear H;go_wp2_with fail;refine T.mono ?_;rintro e bj ⟨M,N,rfl,O⟩;have K:Hid _:=z.out M N bj O;clear T O z q ae J;go_wp2_with fail;go_roundw
      case rel=>exact K.out
      case measure=>simp[intOf];omega
     ·have K:Hid _:=q.out (a1.out bb);clear T z q ae J H;go_wp2_with fail;go_roundw
      case rel=>exact K.out
      case measure=>simp[intOf];omega
   ·have a9:¬(i:Int)+1< (ls.length:Int):=kH;go_upto_region 16 with fail
    by_cases bb:(d.length:Int)<most
    ·clear H;go_wp2_with fail;refine T.mono ?_;rintro e bj ⟨M,N,rfl,O⟩;have K:Hid _:=z.out M N bj O;clear T O z q ae J;go_wp2_with fail;go_roundw
     case rel=>exact K.out
     case measure=>simp[intOf];omega
    ·have K:Hid _:=q.out (a1.out bb);clear T z q ae J H;go_wp2_with fail;go_roundw
     case rel=>exact K.out
     case measure=>simp[intOf];omega
  ·have a5:i=ls.length:=kH;have cs:¬(i:Int)< (ls.length:Int):=kH;rw[a5,List.drop_length,rdK]at p;cases p;rw[show scL fr most d (aM .nil)=d from rfl]at r;have bs:=kG r ag;have be:d.length<=1048576:=kH;clear ag a5 hr r;go_wp2_with fail;go_ret;rw[bs.out.1];exact⟨A,G,rfl,bs.out.2⟩
theorem Ap(g:PgW P N)(l:Src P B0 ty 157 (.pointer (some ⟨gw,0,none⟩)) S X)(fr most):∀f:Nat,GaC P S X B0 (.pointer (some ⟨gw,0,none⟩)) fr most f
 |0=>fun steps id j A J xs a c B w h=>by rw[rdT]at h;cases h
 |f+1=>fun steps id j A J xs a c B w h s t r x k q d=>by
  rw[rdT]at h;cases o:eB P j id with
  |false=>rw[q4 (by rw[o];decide)]at h;cases h
  |true=>
   rw[qb o]at h;obtain⟨p,H,I,E⟩:=gV.1 o;have G:=(g.ok id p).2;have v:=g.len id;have F:=g.le;by_cases i:P.kd id=2
   ·rw[qb i]at h;by_cases z:j.tall<0\/j.tall=steps
    ·rw[qb z]at h;obtain⟨es,m,b⟩:=m5.1 h;by_cases n:es.isEmpty=true
     ·rw[qb n]at b;cases b
     ·rw[q4 n]at b;cases b;exact Lq l fr most id p i kH kH v es m xs a c B w r x k q d (by simpa using n)
    ·rw[q4 z]at h;cases h
   ·rw[q4 i]at h;obtain⟨ls,m,b⟩:=m5.1 h;obtain⟨y,C,D⟩:=n7.1 b;cases D;have u:P.kd id=3:=by rcases E with e|e;exact absurd e i;exact e
    rw[full]at s;rw[inn]at t;exact Lu l fr most id (steps+1) f (Ap g l fr most f) p u kH kH v ls m _ _ y.1 C s.2 t xs a c B w r x k q d
end
