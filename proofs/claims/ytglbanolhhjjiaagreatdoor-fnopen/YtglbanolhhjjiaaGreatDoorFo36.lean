import Derived.Test.YtglbanolhhjjiaaGreatDoorFo34
namespace Go.Proofs.YtglbanolhhjjiaaGreatDoor
open Go.Proofs.Tryz
open Go.RowKit
set_option linter.unusedVariables false
set_option maxRecDepth 100000
set_option maxHeartbeats 32000000
theorem yl(y z d K f b c a w)(h:RDisk w d K)(A:Errs w y z):
 Calls prog 27 #[av d K,.agg (al f b c a).toArray] w fun e w'=>e= .returned (.bool (whB K f b c a))/\Below w.1.size w w':=by
 obtain⟨i,g⟩:=aa (w.alloc (.cells #[.slice d.sa K.n d.sc,.slice d.pa K.m d.pc] 35));obtain⟨p,j⟩:=aa (i.alloc (.cells (al f b c a).toArray 36));have t:Below w.1.size w i:=by rw[g];exact bAl _ _
 have u:Below i.1.size i p:=by rw[j];exact bAl _ _
 have E:i.1.size=w.1.size+1:=by rw[g];simp
 have C:=(by rw[g];exact aq w _ _:Blk i 35 w.1.size [.slice d.sa K.n d.sc,.slice d.pa K.m d.pc]).below u;have D:Blk p 36 (w.1.size+1) (al f b c a):=by rw[j,<-E];exact aq i _ _
 have k:=t.trans (u.mono t.size);have G:(prog.info? 35).map (·.size)=some (#[Value.slice d.sa K.n d.sc,Value.slice d.pa K.m d.pc]:Array Value).size:=gD;have H:(prog.info? 36).map (·.size)=some (al f b c a).toArray.size:=bj;have o:=Gs y z d K f b c a p (h.below k) (A.below k);have n:Hid _:=k;unfold av at o ⊢;generalize whB K f b c a=r at*;clear t u E k h A;go_enter func27,ntmps27;go_upto_region 1 with fail
 change Code.wp _ _ _ _ ((w.alloc (.cells #[.slice d.sa K.n d.sc,.slice d.pa K.m d.pc] 35)).alloc (.cells (al f b c a).toArray 36));rw[<-g,<-j];clear g j;go_wp2_with (first|(refine B5 rfl 35 _ rfl w.1.size rfl 35 #[.slice d.sa K.n d.sc,.slice d.pa K.m d.pc] (0,0) _ C underlying35 rfl G ?_)|(refine B5 rfl 36 _ rfl (w.1.size+1) rfl 36 (al f b c a).toArray (0,0) _ D underlying36 rfl H ?_));refine o.mono ?_;rintro e I ⟨x,cs,l,m,rfl⟩;have F:(prog.info? 102).map (·.size)=some cs.toArray.size:=by rw[wA,l];exact lp
 have q:=n.out.trans (x.mono n.out.size);have v:Hid _:=q.alloc q.size (.cells cs.toArray 102);have s:=df m;have B:hoZ.toArray.size=cs.toArray.size:=by rw[wA,wA,l];rfl
 clear o x q C D n m;go_wp2_with (refine bt rfl 102 _ _ rfl I hoZ.toArray cs.toArray 102 rfl rfl F B s ?_);go_ret;exact⟨rfl,v.out⟩
