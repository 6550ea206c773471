import Derived.Test.YtnohmedccbogkaaGreatDoorCo38
namespace Go.Proofs.YtnohmedccbogkaaGreatDoor
open Go.Proofs.Tryz
open Go.RowKit
set_option linter.unusedVariables false
set_option maxRecDepth 100000
set_option maxHeartbeats 32000000
theorem tW{B w a n c l}(h:Own B w a n c l)(i:0<n):∃g,a=some ⟨g,0,none⟩:=by
 rcases h.2 with⟨b,f⟩|⟨g,d,e,b,_⟩
 ·omega
 ·cases b;exact⟨g,rfl⟩
theorem tX{w q l}(a:l.length=32)(h:Blk w 32 q (ob l)):(Instr.loadAt 32 (.pointer (some ⟨q,0,none⟩))).run prog w= .ok (.agg (ob l).toArray) w:=by
 simp only[Instr.loadAt,Instr.sureAddr,q9,r2,Result.andThen];refine iM w q 0 32 (ob l) _ (fun j v b=> ?_) qa rfl (by rw[au,a];exact aJ);rw[show 0+j=j by omega,h.cell j];exact b
theorem L5(h:Nat)(l)(K:h<4294967296)(B:l.length=32)(p:IsB l)(w):
 Calls prog 107 #[.int .i64 h,.agg (ob l).toArray] w fun e w'=>e= .returned (.string (tpT h l))/\Below w.1.size w w':=by
 have k0:Blk (w.alloc (.cells (ob l).toArray 32)) 32 w.1.size (ob l):=ao w 32 (ob l).toArray;have m:=bAl w (.cells (ob l).toArray 32);have q:=cY (fL h 4) p;have v:Hid (tpT h l=strOfNums (num h 4++l)):=rfl;go_enter func107,ntmps107;go_upto_region 1 with fail
 change Code.wp _ _ _ _ (w.alloc (.cells (ob l).toArray 32));generalize w.alloc (.cells (ob l).toArray 32)=j at*;obtain⟨b,d⟩:∃b,b=j.drew:=⟨_,rfl⟩;have B0:Below j.1.size j b:=by rw[d];exact⟨rfl,rfl,rfl,kE,fun _ _=>rfl⟩
 have i:Hid (Below w.1.size w b):=m.trans (B0.mono m.size);have x:=(vA k0 B kH p).below B0;have g:=lp b.1.size none 0 0 [] h 4 b (gR _ _) kE kH kH kH kH;simp only[ld,m7]at g;clear k0 m B0;generalize num (h:Int) 4=D at*;refine ay (fun _=>True) (fun k=>decide (6<=k)) kO ?_;rw[<-d];clear d;refine aa 0 trivial ?_;refine aC 2 (.slice (some ⟨w.1.size,0,none⟩) 32 32) trivial ?hyb ?_
 case hyb=>(intro L H;unfold execOp;go_simp)
 refine aj 1 fun c a=> ?_;go_wp2_with fail;refine g.mono ?_;rintro e F ⟨z,A,rfl,f,E⟩;have y:=x.below f;have t:Hid (Below w.1.size w F):=i.out.trans (f.mono i.out.size);have r:=f.size;clear g f;go_wp2_with fail;refine al a ?_;clear a c;refine aT 3 kO rfl (fun c a=> ?_);refine fO rfl _ _ rfl b.1.size z 4 A D rfl E w.1.size 32 32 l rfl y kH r ?_;intro I J G s o _;have u:Hid (Below w.1.size w G):=t.out.trans (o.mono i.out.size);have C:=aP (n:=36) (s.bs q);clear s o;refine al a ?_;clear a c;refine aj 4 fun c a=> ?_;go_wp2_with fail;clear C;refine al a ?_;clear a c;refine aa 5 trivial ?_;refine ax ?_;go_wp2_with fail;go_ret;rw[v.out];exact⟨rfl,u.out⟩
theorem L6(h:Nat)(l)(ar:h<4294967296)(M:l.length=32)(A:IsB l)(w):
 Calls prog 59 #[.int .i64 h,.agg (ob l).toArray] w fun e w'=>e= .returned (.agg #[.string ⟨#[116]⟩,.string (tpT h l),.bool false])/\Below w.1.size w w':=by
 obtain⟨f,d⟩:∃W,W=w.alloc (.cells (ob l).toArray 32):=⟨_,rfl⟩;obtain⟨b,j⟩:∃W,W=f.alloc (.cells (chV ch0).toArray 105):=⟨_,rfl⟩;have C:Below w.1.size w f:=by rw[d];exact bAl _ _
 have r:Below f.1.size f b:=by rw[j];exact bAl _ _
 have U:f.1.size=w.1.size+1:=by rw[d];simp
 have m:=C.trans (r.mono C.size);have k0:=(by rw[d];exact ao w _ _:Blk f 32 w.1.size (ob l)).below r;have P:Blk b 105 (w.1.size+1) (chV ch0):=by rw[j,<-U];exact ao f _ _
 have K:=cY (fL h 4) A;have V:Hid (tpT h l=strOfNums (num h 4++l)):=rfl;have i:Hid (∀y,Below b.1.size b y->(Instr.loadAt 32 (.pointer (some ⟨w.1.size,0,none⟩))).run prog y= .ok (.agg (ob l).toArray) y):=fun y ac=>tX M (k0.below ac);have t:=kG m P;clear C r m k0 P;go_enter func59,ntmps59;go_upto_region 1 with fail
 change Code.wp _ _ _ _ ((w.alloc (.cells (ob l).toArray 32)).alloc (.cells (chV ch0).toArray 105));rw[<-d,<-j];clear d j U;obtain⟨o,q⟩:∃o,o=b.drew:=⟨_,rfl⟩;have B0:Hid (Below b.1.size b o):=by show Below b.1.size b o;rw[q];exact⟨rfl,rfl,rfl,kE,fun _ _=>rfl⟩
 have x:=i.out _ B0.out;have E:=i8 h 4 o kH kH kH;generalize num (h:Int) 4=g at*;refine ay (fun y=>(Instr.loadAt 32 (.pointer (some ⟨w.1.size,0,none⟩))).run prog y= .ok (.agg (ob l).toArray) y) (fun k=>decide (7<=k)) kO ?_;rw[<-q];clear q;refine aa 0 x ?_;refine aC 2 (.agg (ob l).toArray) x ?hyb ?_
 case hyb=>exact fun y L=>bO (p:= .pointer (some ⟨w.1.size,0,none⟩)) rfl rfl L
 refine aj 1 fun c a=> ?_;go_wp2_with fail;refine E.mono ?_;rintro e w1 ⟨X,Y,rfl,m,R⟩;have z:Hid (Below b.1.size b w1):=B0.out.trans (m.mono B0.out.size);have ah:=i.out _ z.out;have H:=gj l w1 M A;have N:=m.size;clear E m;go_wp2_with fail;refine al a ?_;clear a c;refine aj 3 fun c a=> ?_;go_wp2_with fail;refine H.mono ?_;rintro e ag ⟨an,Z,rfl,u,B⟩;obtain⟨ab,rfl⟩:=tW B kH;have F:Hid (Below b.1.size b ag):=z.out.trans (u.mono z.out.size);have ai:=i.out _ F.out;have I:=B.bs A;have S:=R.below u;have O:=k2 N u.size;clear H B u R;go_wp2_with fail;refine al a ?_;clear a c;refine aT 4 kO rfl (fun c a=> ?_);refine fO rfl _ _ rfl o.1.size X 4 Y g rfl S ab 32 Z l rfl I kH O ?_;intro am ap D T J _;have s:Hid (Below b.1.size b D):=F.out.trans (J.mono B0.out.size);have ak:=i.out _ s.out;have ae:=aP (n:=36) (T.bs K);clear T J S I;refine al a ?_;clear a c;refine aj 5 fun c a=> ?_;go_wp2_with fail;clear ae;refine al a ?_;clear a c;refine aj 6 fun c a=> ?_;go_wp2_with fail;refine al a ?_;clear a c;have Q:=t.out.2.below s.out;have af:=aN D (w.1.size+1) #[.string ⟨#[116]⟩,.string (strOfNums (g++l)),.bool false];have G:Hid (Below w.1.size w (D.setRow (w.1.size+1) #[.string ⟨#[116]⟩,.string (strOfNums (g++l)),.bool false])):=(t.out.1.trans (s.out.mono t.out.1.size)).trans (af.below kH (k2 t.out.1.size s.out.size));have ad:=Blk.setRow Q #[.string ⟨#[116]⟩,.string (strOfNums (g++l)),.bool false].toList;refine aj 7 fun c a=> ?_;refine s5 105 _ _ rfl (w.1.size+1) #[.string ⟨#[116]⟩,.string (strOfNums (g++l)),.bool false] rfl rfl 105 _ Q mg rfl (by simp[Value.oneCell']) ?_;refine al a ?_;clear a c;refine ax ?_;go_wp2_with fail;rw[V.out];refine p6 (v:= .agg #[.string ⟨#[116]⟩,.string (strOfNums (g++l)),.bool false]) ?_ rfl ⟨rfl,G.out⟩;exact r3 results59 _ _ (w.1.size+1) 105 #[.string ⟨#[116]⟩,.string (strOfNums (g++l)),.bool false] (0,0) _ rfl ad underlying105 rfl mg
