import Derived.Test.YtnohmedccbogkaaGreatDoorCo16
namespace Go.Proofs.YtnohmedccbogkaaGreatDoor
open Go.Proofs.Tryz
open Go.RowKit
set_option linter.unusedVariables false
set_option maxRecDepth 100000
set_option maxHeartbeats 32000000
theorem ze(P N B0 g sb rt c a)(j:PgW P N)(i:mZ P c g a)(b:a.1.size<=B0):∀f,RdC P N B0 g sb rt c a f
 |0=>fun steps id ns nv na nc seen tall w l e p k=>by
  have:=e.ok.le;omega
 |f+1=>fun steps id ns nv na nc seen tall w l e p k=>by
  cases h:eB P ⟨seen,tall⟩ id with
  |false=>exact I6 P N B0 g sb rt c a j i b f steps id ns nv na nc seen tall w l e k h
  |true=>
   obtain⟨m,n,o,d⟩:=gV.1 h;rcases d with d|d
   ·exact I7 P N B0 g sb rt c a j i b f steps id ns nv na nc seen tall w l e k m n o d
   ·exact Jw P N B0 g sb rt c a j i b f (ze P N B0 g sb rt c a j i b f) steps id ns nv na nc seen tall w l e k p m n o d
def kOk(ks:List ByteArray)(low high:ByteArray)(m:Nat):Bool:=inB low high (ks.getD m (strOfNums []))&&(m==0||sl (ks.getD (m-1) (strOfNums [])) (ks.getD m (strOfNums [])))
theorem JC(low g):∀es:List (ByteArray×ByteArray),(es.all (fun e=>inB low g e.1)&&jA es)=(List.range es.length).all (kOk (es.map (fun x=>x.1)) low g):=fun es=>by
 rw[Bool.eq_iff_iff,ly,qM,oW,oW];have f:∀m(h:m<es.length),(es.map (fun x=>x.1)).getD m (strOfNums [])=(es[m]).1:=fun m h=>by simp[List.getD,h]
 constructor
 ·rintro⟨c,l⟩ m i;have j:=m3.1 i;unfold kOk;rw[ly];refine⟨by rw[f m j];exact c _ (o2 _),?_⟩;cases m with
  |zero=>rfl
  |succ m=>
   rw[Nat.add_sub_cancel,f m kH,f (m+1) j];have:=List.pairwise_iff_getElem.1 l m (m+1) (by simp;omega) (by simp;omega) kH;simpa using this
 ·intro h;refine⟨fun e p=> ?_,?_⟩
  ·obtain⟨m,i,rfl⟩:=List.getElem_of_mem p;have:=h m (m3.2 i);unfold kOk at this;rw[ly,f m i]at this;exact this.1
  ·have step:=fun m c=>by
    have:=h (m+1) (m3.2 c);unfold kOk at this;rw[ly,Nat.add_sub_cancel,f m kH,f (m+1) c]at this;simpa using this.2
   have k:∀(d a:Nat)(c:a+d+1<es.length),sl (es[a]).1 (es[a+d+1]).1=true:=by
    intro d;induction d with
    |zero=>intro a c;exact step a c
    |succ d ih=>intro a c;exact jx (ih a kH) (step (a+d+1) kH)
   rw[List.pairwise_iff_getElem];intro a b n o q;simp only[oR]at n o;have:=k (b-a-1) a kH;have e:a+(b-a-1)+1=b:=kH;simp only[e]at this;simpa using this
theorem pR(h:ByteArray):(h.toList==([]:List UInt8))=(h.size==0):=by
 rw[ByteArray.toList_eq];obtain⟨⟨x⟩⟩:=h;cases x with
 |nil=>rfl
 |cons a x=>simp[ByteArray.size]
theorem io{B w w'}(h:Below B w w')(n):Below B w (w'.drewN n):=⟨h.os,h.tape,h.output,h.size,h.block⟩
theorem pS{B0 g sb N rt w ns nv na nc seen tall bad}(h:TSt B0 g sb N rt w ns nv na nc seen tall bad){p K}(k:ns[p]?=some K):
 ∃b,na=some ⟨b,0,none⟩/\(∀j v,(ndc (nv p) K)[j]?=some v->w.cell? ⟨b,p*6+j,none⟩=some v)/\ONd 0 w (nv p) K/\p<ns.length:=by
 have a:=(lb.1 k).1;have f:IsRow 6 (i0 nv ns) ns.length:=⟨fun _ _=>rfl,fun i _=>pI _ _⟩;have m:=h.nodes.reads f;have d:ns.getD p nd0=K:=by rw[List.getD,k];rfl
 rcases h.nodes.2 with⟨_,q⟩|⟨b,n,o,e,_⟩
 ·omega
 ·simp only[s0]at e;have c:=e.1;rw[c]at m;refine⟨b,c,fun j v l=>by have:=m.cells p a j v (by unfold i0;rw[d];exact l);rwa [ld]at this,?_,a⟩;have:=h.each p a;rw[d]at this;exact this
def OrC(B0 g sb N:Nat)(rt:Int)(ns:List NdK)(nv:Nat->NdV)(na:Option Addr)(nc:Nat)(seen:List Int)(tall:Int)(bad:Bool)(t:Tr):Prop:= ∀(p:Int)(low high:ByteArray)(w:World),TSt B0 g sb N rt w ns nv na nc seen tall bad->Rep ns t true [p] []->
 Calls prog 181 #[.pointer (some ⟨g,0,none⟩),.int .i64 p,.string low,.string high] w fun e w'=>e= .returned (.bool (okT t true low high))/\Below w.1.size w w'
theorem JD{B0 g sb N rt ns nv na nc seen tall bad}(id es)(ap:es.length<=1048576)(a6:ns.length<=1048576):OrC B0 g sb N rt ns nv na nc seen tall bad (.leaf id es):=by
 intro p low a w Z hr;rw[Rep]at hr;obtain⟨q,a4,am⟩:=hr;cases a4;have Q:Hid (okT (.leaf id es) true low a=(List.range es.length).all (kOk (es.map (fun x=>x.1)) low a)):=by
  show okT _ _ _ _= _;rw[okT];exact JC low a es
 generalize okT (.leaf id es) true low a=V at*;obtain⟨b,rfl,A,an,a7⟩:=pS Z am;have ae:w.cell? ⟨g,0,none⟩=some (.slice (some ⟨b,0,none⟩) ns.length nc):=Z.blk.cell 0;generalize R:es.map (fun x=>x.1)=ks at*;have D:Hid (ks.length=es.length):=by show ks.length=es.length;rw[<-R,oR]
 have a3:ks.length<=1048576:=by rw[D.out];exact ap
 generalize es.map (fun x=>x.2)=a0 at*;generalize F:(⟨id,true,ks,a0,[],[]⟩:NdK)=K at*;have P:K.keys=ks:=by rw[<-F]
 have O:K.kids=[]:=by rw[<-F]
 have Y:=bAl w (.cells (ndc (nv q) K).toArray 257);have aO:=ao w 257 (ndc (nv q) K).toArray;have ac:=an.below Y;have aX:(prog.info? 257).map (·.size)=some (ndc (nv q) K).length:=bM;go_enter func181,ntmps181;go_upto_region 2 with(first|(refine dm rfl 257 _ rfl b (q*6) rfl (ndc (nv q) K) _ A q8 rfl aX ?_)|(refine aL rfl 257 _ _ rfl w (ndc bX nd0).toArray (ndc (nv q) K).toArray 257 rfl rfl bM rfl (fT _ _) ?_))
 change Code.wp _ _ _ _ (w.alloc (.cells (ndc (nv q) K).toArray 257));generalize w.alloc (.cells (ndc (nv q) K).toArray 257)=ad at*;have U:Blk ad 257 w.1.size (ndc (nv q) K):=aO;have a2:Hid (∀ab,Below ad.1.size ad ab->ab.cell? ⟨w.1.size,2,none⟩=some (.slice (nv q).ka ks.length (nv q).kc)/\ab.cell? ⟨w.1.size,4,none⟩=some (.slice (nv q).da 0 (nv q).dc)/\Own1 9 0 ab (nv q).ka ks.length (nv q).kc (os ks)):=fun ab aH=>by
  have i:=U.below aH;have C:=(ac.below aH).keys;have W:ab.cell? ⟨w.1.size,2,none⟩=some (.slice (nv q).ka K.keys.length (nv q).kc):=i.cell 2;have L:ab.cell? ⟨w.1.size,4,none⟩=some (.slice (nv q).da K.kids.length (nv q).dc):=i.cell 4;rw[P]at C W;rw[O]at L;exact⟨W,L,C⟩
 have s:Hid _:=Y;clear aO U ac an Y A ae Z am F P O aX R;generalize (nv q).ka=bc at*;generalize (nv q).kc=be at*;generalize (nv q).da=a9 at*;generalize (nv q).dc=ba at*;go_wp2_with fail;go_loopw [10] (fun x wr=> ∃j:Nat,x= .int .i64 (j:Nat)/\j<=ks.length/\Below ad.1.size ad wr/\∀m,m<j->kOk ks low a m=true) (fun x _=>ks.length-(intOf x).toNat)
 case atStart=>exact⟨0,rfl,kX _,kF,fun m z=>absurd z (np _)⟩
 case round=>
  obtain⟨j,rfl,bb,H,G⟩:=hrel;obtain⟨a1,rfl⟩:∃x,x=wr:=⟨_,rfl⟩;obtain⟨W,L,C⟩:=a2.out a1 H;have n:Hid _:=H;have u:Hid _:=G;clear H G;by_cases S:j<ks.length
  ·have X:(j:Int)< (ks.length:Int):=kH;obtain⟨bd,rfl,_,_,_,J⟩:=C.at_ kH;have a8:=(J j S).trans (rx some (pi ks j S));have M:Hid _:=J;clear J C L;have l:Hid (kOk ks low a j=false->V=false):=fun h=>by
    rw[Q.out];rw[List.all_eq_false];exact⟨j,m3.2 (by have:=D.out;omega),by rw[h];decide⟩
   have c:Hid (kOk ks low a j=(inB low a (ks.getD j (strOfNums []))&&(j==0||sl (ks.getD (j-1) (strOfNums [])) (ks.getD j (strOfNums []))))):=rfl;generalize a5:ks.getD j (strOfNums [])=i at*;cases hA:sl i low with
   |true=>
    have ag:Op.bytesLess i.toList low.toList=true:=hA;have f:=l.out (by rw[c.out];simp[inB,sle,hA]);clear hA;go_upto_region 5 with fail
    go_quiet (fail)
    go_wp2_with fail;go_ret;exact⟨by rw[f];rfl,s.out.trans ((io n.out _).mono s.out.size)⟩
   |false=>
    have ag:Op.bytesLess i.toList low.toList=false:=hA;have r:sle low i=true:=by unfold sle;rw[hA];rfl
    clear hA;cases y:(a.size==0)with
    |true=>
     have ai:(a.toList==([]:List UInt8))=true:=by rw[pR];exact y
     have k:inB low a i=true:=by simp[inB,r,y]
     clear y r;by_cases I:j=0
     ·subst I;have d:kOk ks low a 0=true:=by rw[c.out];simp[k]
      have v:Hid _:=d;clear l c d k;go_upto_region 5 with fail
      go_quiet (fail)
      go_wp2_with fail;go_roundw
      case rel=>exact⟨1,rfl,kH,io n.out _,fun m z=>(show m=0 by omega)▸v.out⟩
      case measure=>simp[intOf];omega
     ·obtain⟨t,rfl⟩:∃t,j=t+1:=⟨j-1,kH⟩;have af:=(M.out t kH).trans (rx some (pi ks t kH));have ak:t<ks.length:=kH;rw[Nat.add_sub_cancel]at c;generalize aw:ks.getD t (strOfNums [])=k0 at*;cases o:sl k0 i with
      |false=>
       have E:Op.bytesLess k0.toList i.toList=false:=o;have f:=l.out (by rw[c.out,o];simp);clear o l c k;go_upto_region 5 with fail
       go_quiet (fail)
       go_wp2_with fail;go_ret;exact⟨by rw[f];rfl,s.out.trans ((io n.out _).mono s.out.size)⟩
      |true=>
       have E:Op.bytesLess k0.toList i.toList=true:=o;have d:kOk ks low a (t+1)=true:=by rw[c.out,o,k];simp
       have v:Hid _:=d;clear o l c k d;go_upto_region 5 with fail
       go_quiet (fail)
       go_wp2_with fail;go_roundw
       case rel=>exact⟨t+1+1,by go_num,kH,io n.out _,fun m z=>by
        by_cases e:m=t+1
        ·subst e;exact v.out
        ·exact u.out m kH⟩
       case measure=>simp[intOf];omega
    |false=>
     have ai:(a.toList==([]:List UInt8))=false:=by rw[pR];exact y
     cases B:sl i a with
     |false=>
      have ah:Op.bytesLess i.toList a.toList=false:=B;have f:=l.out (by rw[c.out];simp[inB,B,y]);clear B y l c r;go_upto_region 5 with fail
      go_quiet (fail)
      go_wp2_with fail;go_ret;exact⟨by rw[f];rfl,s.out.trans ((io n.out _).mono s.out.size)⟩
     |true=>
      have ah:Op.bytesLess i.toList a.toList=true:=B;have k:inB low a i=true:=by simp[inB,r,B]
      clear y B r;by_cases I:j=0
      ·subst I;have d:kOk ks low a 0=true:=by rw[c.out];simp[k]
       have v:Hid _:=d;clear l c d k;go_upto_region 5 with fail
       go_quiet (fail)
       go_wp2_with fail;go_roundw
       case rel=>exact⟨1,rfl,kH,io n.out _,fun m z=>(show m=0 by omega)▸v.out⟩
       case measure=>simp[intOf];omega
      ·obtain⟨t,rfl⟩:∃t,j=t+1:=⟨j-1,kH⟩;have af:=(M.out t kH).trans (rx some (pi ks t kH));have ak:t<ks.length:=kH;rw[Nat.add_sub_cancel]at c;generalize aw:ks.getD t (strOfNums [])=k0 at*;cases o:sl k0 i with
       |false=>
        have E:Op.bytesLess k0.toList i.toList=false:=o;have f:=l.out (by rw[c.out,o];simp);clear o l c k;go_upto_region 5 with fail
        go_quiet (fail)
        go_wp2_with fail;go_ret;exact⟨by rw[f];rfl,s.out.trans ((io n.out _).mono s.out.size)⟩
       |true=>
        have E:Op.bytesLess k0.toList i.toList=true:=o;have d:kOk ks low a (t+1)=true:=by rw[c.out,o,k];simp
        have v:Hid _:=d;clear o l c k d;go_upto_region 5 with fail
        go_quiet (fail)
        go_wp2_with fail;go_roundw
        case rel=>exact⟨t+1+1,by go_num,kH,io n.out _,fun m z=>by
         by_cases e:m=t+1
         ·subst e;exact v.out
         ·exact u.out m kH⟩
        case measure=>simp[intOf];omega
  ·have ar:j=ks.length:=kH;have X:¬(j:Int)< (ks.length:Int):=kH;have f:V=true:=by
    rw[Q.out,oW];intro m z;exact u.out m (by have:=m3.1 z;have:=D.out;omega)
   clear C ar;go_wp2_with fail;go_loopw [11] (fun x wr=>x= .int .i64 0/\wr=a1) (fun _ _=>0)
   case atStart=>exact⟨rfl,rfl⟩
   case round=>
    obtain⟨rfl,T⟩:=hrel;obtain rfl:=T.symm;clear T;go_wp2_with fail;go_ret;exact⟨by rw[f];rfl,s.out.trans (n.out.mono s.out.size)⟩
