import Derived.Test.YtglbanolhhjjiaaGreatDoorFo34
namespace Go.Proofs.YtglbanolhhjjiaaGreatDoor
open Go.Proofs.Tryz
open Go.RowKit
set_option linter.unusedVariables false
set_option maxRecDepth 100000
set_option maxHeartbeats 32000000
theorem yl(x y d K f b c a w)(I:RDisk w d K)(z:Errs w x y):
 Calls prog 27 #[av d K,.agg (al f b c a).toArray] w fun e w'=>e= .returned (.bool (whB K f b c a))/\Below w.1.size w w':=by
 obtain⟨h,g⟩:=aa (w.alloc (.cells #[.slice d.sa K.n d.sc,.slice d.pa K.m d.pc] 35));obtain⟨o,i⟩:=aa (h.alloc (.cells (al f b c a).toArray 36));have s:Below w.1.size w h:=by rw[g];exact bAl _ _
 have t:Below h.1.size h o:=by rw[i];exact bAl _ _
 have D:h.1.size=w.1.size+1:=by rw[g];simp
 have B:=(by rw[g];exact aq w _ _:Blk h 35 w.1.size [.slice d.sa K.n d.sc,.slice d.pa K.m d.pc]).below t;have C:Blk o 36 (w.1.size+1) (al f b c a):=by rw[i,<-D];exact aq h _ _
 have j:=s.trans (t.mono s.size);have F:(prog.info? 35).map (·.size)=some (#[Value.slice d.sa K.n d.sc,Value.slice d.pa K.m d.pc]:Array Value).size:=gD;have G:(prog.info? 36).map (·.size)=some (al f b c a).toArray.size:=bj;have n:=Gs x y d K f b c a o (I.below j) (z.below j);have m:Hid _:=j;unfold av at n ⊢;generalize whB K f b c a=r at*;clear s t D j I z;go_enter func27,ntmps27;go_upto_region 1 with fail
 change Code.wp _ _ _ _ ((w.alloc (.cells #[.slice d.sa K.n d.sc,.slice d.pa K.m d.pc] 35)).alloc (.cells (al f b c a).toArray 36));rw[<-g,<-i];clear g i;go_wp2_with (first|(refine BD rfl 35 _ rfl w.1.size rfl 35 #[.slice d.sa K.n d.sc,.slice d.pa K.m d.pc] (0,0) _ B underlying35 rfl F ?_)|(refine BD rfl 36 _ rfl (w.1.size+1) rfl 36 (al f b c a).toArray (0,0) _ C underlying36 rfl G ?_));refine n.mono ?_;rintro e H ⟨v,cs,k,l,rfl⟩;have E:(prog.info? 102).map (·.size)=some cs.toArray.size:=by rw[v7,k];exact lp
 have p:=m.out.trans (v.mono m.out.size);have u:Hid _:=p.alloc p.size (.cells cs.toArray 102);have q:=df l;have A:hoZ.toArray.size=cs.toArray.size:=by rw[v7,v7,k];rfl
 clear n v p B C m l;go_wp2_with (refine bt rfl 102 _ _ rfl H hoZ.toArray cs.toArray 102 rfl rfl E A q ?_);go_ret;exact⟨rfl,u.out⟩
