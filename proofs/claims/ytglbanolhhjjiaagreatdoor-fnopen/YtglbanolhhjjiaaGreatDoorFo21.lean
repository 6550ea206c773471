import Derived.Test.YtglbanolhhjjiaaGreatDoorFo20
import Derived.Test.YtglbanolhhjjiaaGreatDoorFo11
namespace Go.Proofs.YtglbanolhhjjiaaGreatDoor
open Go.Proofs.Tryz
open Go.RowKit
set_option linter.unusedVariables false
set_option maxRecDepth 100000
set_option maxHeartbeats 32000000
theorem v8(l k):(os l).take k=os (l.take k):=by simp[os,List.map_take]
theorem wd(l k):(os l).drop k=os (l.drop k):=by simp[os,List.map_drop]
theorem we(l k):(on l).take k=on (l.take k):=by simp[on,List.map_take]
theorem rc(l k):(on l).drop k=on (l.drop k):=by simp[on,List.map_drop]
def eE{α:Type}(l:List α)(k:Nat)(s:α):List α:=l.take k++s::l.drop k
def dx{α:Type}(l:List α)(k:Nat):List α:=l.take k++l.drop (k+1)
theorem re{a:Type}{l k}(s:a)(h:k<=l.length):(eE l k s).length=l.length+1:=by simp[eE];omega
theorem ky{a:Type}{l:List a}{k}(h:k<l.length):(dx l k).length=l.length-1:=by simp[dx];omega
theorem oh(l a n c k s w)(i:R1 9 w a n c (os l))(t:k<=n)(U:n<=1000000):
 Calls prog 161 #[.slice a n c,.int .i64 (k:Nat),.string s] w fun e w'=> ∃m r,e= .returned (.slice m (n+1) r)/\Below w.1.size w w'/\Own1 9 w.1.size w' m (n+1) r (os (eE l k s)):=by
 have b:=bAl w (.cells #[] 9);have v:=fU 9 w.1.size w t6;have B:=i.below b;have F:Hid _:=i;clear i;go_enter func161,ntmps161;go_upto_region 2 with fail
 generalize w.alloc (.cells #[] 9)=Y at*;go_wp2_with (refine iM bM B t rfl rfl rfl rfl ?_);intro O R C;go_wp2_with (at_builtin;refine ir bM v C uA uA b.size rfl rfl rfl rfl ?_);intro G I V x o K;have j:=b.trans o;have u:=j.size;clear v B C b o K;go_wp2_with (at_builtin;refine lN rfl _ _ bM rfl w.1.size G k I _ rfl x (.string s) rfl rfl uA uA u ?_);intro P S W y p L;have d:=j.trans p;have D:=F.out.below d;have f:=d.size;clear x j u p L;go_wp2_with (refine ni bM D t rfl rfl rfl rfl ?_);intro Q T E;go_wp2_with (at_builtin;refine ir bM y E uA uA f rfl rfl rfl rfl ?_);intro H J X z q M;have A:=d.trans q;have g:=uv A z;have N:Hid (k+1+(n-k)=n+1):=by show _= _;omega
 clear y D E d q M A z f;go_wp2_with fail;go_ret;rw[N.out]at g ⊢;exact⟨H,J,rfl,g.out.1,by have:=g.out.2;rw[v8,wd]at this;simpa [eE,os]using this⟩
theorem kz(l a n c k w)(j:R1 9 w a n c (os l))(r:k<n)(N:n<=1000000):
 Calls prog 159 #[.slice a n c,.int .i64 (k:Nat)] w fun e w'=> ∃m q,e= .returned (.slice m (n-1) q)/\Below w.1.size w w'/\Own1 9 w.1.size w' m (n-1) q (os (dx l k)):=by
 have b:=bAl w (.cells #[] 9);have s:=fU 9 w.1.size w t6;have x:=j.below b;have B:Hid _:=j;clear j;go_enter func159,ntmps159;go_upto_region 2 with fail
 generalize w.alloc (.cells #[] 9)=Q at*;go_wp2_with (refine iM bM x (A2 r) rfl rfl rfl rfl ?_);intro H K y;go_wp2_with (at_builtin;refine ir bM s y uA uA b.size rfl rfl rfl rfl ?_);intro I L O t o E;have d:=b.trans o;have z:=B.out.below d;have f:=d.size;clear s x y b o E;go_wp2_with (refine ni (i:=k+1) bM z r rfl rfl rfl (by go_num) ?_);intro J M A;go_wp2_with (at_builtin;refine ir bM t A uA uA f rfl rfl rfl rfl ?_);intro C D P u p F;have v:=d.trans p;have g:=uv v u;have G:Hid (k+(n-(k+1))=n-1):=by show _= _;omega
 clear t z A d p F v u f;go_wp2_with fail;go_ret;rw[G.out]at g ⊢;exact⟨C,D,rfl,g.out.1,by have:=g.out.2;rw[v8,wd]at this;simpa [dx,os]using this⟩
theorem DY(l a n c k s w)(i:R1 3 w a n c (on l))(t:k<=n)(U:n<=1000000):
 Calls prog 164 #[.slice a n c,.int .i64 (k:Nat),.bool true,.int .i64 s] w fun e w'=> ∃m r,e= .returned (.slice m (n+1) r)/\Below w.1.size w w'/\Own1 3 w.1.size w' m (n+1) r (on (eE l k s)):=by
 have b:=bAl w (.cells #[] 3);have v:=fU 3 w.1.size w t6;have B:=i.below b;have F:Hid _:=i;clear i;go_enter func164,ntmps164;go_upto_region 2 with fail
 generalize w.alloc (.cells #[] 3)=Y at*;go_wp2_with (refine iM co B t rfl rfl rfl rfl ?_);intro O R C;go_wp2_with (at_builtin;refine ir co v C uA uA b.size rfl rfl rfl rfl ?_);intro G I V x o K;have j:=b.trans o;have u:=j.size;clear v B C b o K;go_wp2_with (at_builtin;refine lN rfl _ _ co rfl w.1.size G k I _ rfl x (.int .i64 s) rfl rfl uA uA u ?_);intro P S W y p L;have d:=j.trans p;have D:=F.out.below d;have f:=d.size;clear x j u p L;go_wp2_with (refine ni co D t rfl rfl rfl rfl ?_);intro Q T E;go_wp2_with (at_builtin;refine ir co y E uA uA f rfl rfl rfl rfl ?_);intro H J X z q M;have A:=d.trans q;have g:=uv A z;have N:Hid (k+1+(n-k)=n+1):=by show _= _;omega
 clear y D E d q M A z f;go_wp2_with fail;go_ret;rw[N.out]at g ⊢;exact⟨H,J,rfl,g.out.1,by have:=g.out.2;rw[we,rc]at this;simpa [eE,on]using this⟩
theorem wh(l a n c k s w)(j:R1 3 w a n c (on l))(r:k<n)(O:n<=1000000):
 Calls prog 164 #[.slice a n c,.int .i64 (k:Nat),.bool false,.int .i64 s] w fun e w'=> ∃m q,e= .returned (.slice m (n-1) q)/\Below w.1.size w w'/\Own1 3 w.1.size w' m (n-1) q (on (dx l k)):=by
 have b:=bAl w (.cells #[] 3);have t:=fU 3 w.1.size w t6;have y:=j.below b;have C:Hid _:=j;clear j;go_enter func164,ntmps164;go_upto_region 2 with fail
 generalize w.alloc (.cells #[] 3)=R at*;go_wp2_with (refine iM co y (A2 r) rfl rfl rfl rfl ?_);intro I L z;go_wp2_with (at_builtin;refine ir co t z uA uA b.size rfl rfl rfl rfl ?_);intro J M P u o F;have d:=b.trans o;have A:=C.out.below d;have f:=d.size;clear t y z b o F;go_wp2_with (refine ni (i:=k+1) co A r rfl rfl rfl (by go_num) ?_);intro K N B;go_wp2_with (at_builtin;refine ir co u B uA uA f rfl rfl rfl rfl ?_);intro D E Q v p G;have x:=d.trans p;have g:=uv x v;have H:Hid (k+(n-(k+1))=n-1):=by show _= _;omega
 clear u A B d p G x v f;go_wp2_with fail;go_ret;rw[H.out]at g ⊢;exact⟨D,E,rfl,g.out.1,by have:=g.out.2;rw[we,rc]at this;simpa [dx,on]using this⟩
theorem rf{e:Type}{f}:∀{l:List e}{j:Nat}(d:e),j<=(l.takeWhile f).length->j<l.length->(f (l.getD j d)=true↔j< (l.takeWhile f).length)
 |[],j,d,_,h=>by simp at h
 |x::l,0,d,a,_=>by cases b:f x<;>simp[List.takeWhile,b]
 |x::l,j+1,d,a,c=>by
  cases b:f x with
  |false=>simp[List.takeWhile,b]at a
  |true=>
   rw[List.takeWhile_cons_of_pos b]at a ⊢;have:=rf (l:=l) (j:=j) d (by simpa using a) (by simpa using c);simpa using this
theorem rg(l a n c k w)(q:R1 9 w a n c (os l))(D:l.length=n)(C:n<=1000000):
 Calls prog 158 #[.slice a n c,.string k] w fun e w'=>e= .returned (.int .i64 (plc k l:Nat))/\w'=w:=by
 have A:=qZ k l;have t:Hid (∀j,j<=plc k l->j<l.length->(sl (l.getD j (strOfNums [])) k=true↔j<plc k l)):=fun j v y=>rf (f:=fun x=>sl x k) _ v y;have s:Hid _:=q;generalize plc k l=P at*;clear q;go_enter func158,ntmps158;go_wp2_with fail;go_loopw [5] (fun x wr=> ∃j:Nat,x= .int .i64 (j:Nat)/\j<=P/\wr=w) (fun x _=>l.length-(intOf x).toNat)
 case atStart=>exact⟨0,rfl,wa _,rfl⟩
 case round=>
  obtain⟨j,rfl,z,i⟩:=hrel;obtain rfl:=i.symm;clear i;by_cases p:j<n
  ·have m:(j:Int)< (n:Int):=uA;obtain⟨b,B,rfl,u⟩:=s.out.get p;rw[eh l j uA]at u;have g:=t.out j z uA;have o:Hid (sl (l.getD j (strOfNums [])) k=Op.bytesLess (l.getD j (strOfNums [])).toList k.toList):=rfl;generalize l.getD j (strOfNums [])=x at*;cases r:Op.bytesLess x.toList k.toList with
   |true=>
    have d:=g.1 (by rw[o.out];exact r);clear g;go_wp2_with fail;go_roundw
    case rel=>exact⟨j+1,by go_num,uA,trivial⟩
    case measure=>simp[intOf];omega
   |false=>
    have d:Hid (P=j):=by
     show P=j;have:¬j<P:=fun h=>by have:=g.2 h;rw[o.out,r]at this;cases this
     omega
    clear g;go_wp2_with fail;go_ret;rw[d.out];exact⟨rfl,rfl⟩
  ·have m:¬(j:Int)< (n:Int):=uA;have d:Hid (P=j):=by show P=j;omega
   go_wp2_with fail;go_ret;rw[d.out];exact⟨rfl,rfl⟩
theorem DZ(a b):sle a b=(Op.bytesLess a.toList b.toList||a.toList==b.toList):=by
 unfold sle;cases c:Op.bytesLess a.toList b.toList with
 |true=>rw[show sl b a=false from by cases h:sl b a with|false=>rfl|true=>exact absurd (iq (a:=a) c h) (by rw[lO];decide)];rfl
 |false=>
  cases d:sl b a with
  |false=>rw[pX c d];simp
  |true=>
   cases e:(a.toList==b.toList)with
   |false=>rfl
   |true=>
    have:sl b a=Op.bytesLess b.toList b.toList:=by unfold sl;rw[beq_iff_eq.1 e]
    rw[pW,d]at this;cases this
theorem rh(l a n c k w)(q:R1 9 w a n c (os l))(D:l.length=n)(C:n<=1000000):
 Calls prog 157 #[.slice a n c,.string k] w fun e w'=>e= .returned (.int .i64 (iD k l:Nat))/\w'=w:=by
 have A:=vZ k l;have t:Hid (∀j,j<=iD k l->j<l.length->(sle (l.getD j (strOfNums [])) k=true↔j<iD k l)):=fun j v y=>rf (f:=fun x=>sle x k) _ v y;have s:Hid _:=q;generalize iD k l=P at*;clear q;go_enter func157,ntmps157;go_wp2_with fail;go_loopw [5] (fun x wr=> ∃j:Nat,x= .int .i64 (j:Nat)/\j<=P/\wr=w) (fun x _=>l.length-(intOf x).toNat)
 case atStart=>exact⟨0,rfl,wa _,rfl⟩
 case round=>
  obtain⟨j,rfl,z,i⟩:=hrel;obtain rfl:=i.symm;clear i;by_cases p:j<n
  ·have m:(j:Int)< (n:Int):=uA;obtain⟨b,B,rfl,u⟩:=s.out.get p;rw[eh l j uA]at u;have g:=t.out j z uA;have o:Hid (sle (l.getD j (strOfNums [])) k=(Op.bytesLess (l.getD j (strOfNums [])).toList k.toList||(l.getD j (strOfNums [])).toList==k.toList)):=DZ _ _;generalize l.getD j (strOfNums [])=x at*;cases r:(Op.bytesLess x.toList k.toList||x.toList==k.toList)with
   |true=>
    have d:=g.1 (by rw[o.out,r]);clear g;go_wp2_with fail;go_roundw
    case rel=>exact⟨j+1,by go_num,uA,trivial⟩
    case measure=>simp[intOf];omega
   |false=>
    have d:Hid (P=j):=by
     show P=j;have:¬j<P:=fun h=>by have:=g.2 h;rw[o.out,r]at this;cases this
     omega
    clear g;go_wp2_with fail;go_ret;rw[d.out];exact⟨rfl,rfl⟩
  ·have m:¬(j:Int)< (n:Int):=uA;have d:Hid (P=j):=by show P=j;omega
   go_wp2_with fail;go_ret;rw[d.out];exact⟨rfl,rfl⟩
theorem kK(a b):lSz (a++b)=lSz a+lSz b:=by simp[lSz]
theorem gz(e b):lSz (e::b)=eSz e+lSz b:=by simp[lSz]
def aH(ss:List ByteArray):Nat:=(ss.map gSz).sum
theorem iE(a b):aH (a++b)=aH a+aH b:=by simp[aH]
theorem fW(e b):aH (e::b)=gSz e+aH b:=by simp[aH]
theorem dm(a):nSz a=4+aH a:=rfl
theorem mv:∀{a b:List En},a.Sublist b->lSz a<=lSz b
 |_,_,.slnil=>t6
 |_,_,.cons x h=>by rw[gz];have:=mv h;omega
 |_,_,.cons_cons x h=>by rw[gz,gz];have:=mv h;omega
theorem om:∀{a b:List ByteArray},a.Sublist b->aH a<=aH b
 |_,_,.slnil=>t6
 |_,_,.cons x h=>by rw[fW];have:=om h;omega
 |_,_,.cons_cons x h=>by rw[fW,fW];have:=om h;omega
theorem D4{a b}(h:a.Sublist b):nSz a<=nSz b:=by rw[dm,dm];have:=om h;omega
def eOk(e:En):Prop:=1<=e.1.size/\e.1.size<=40/\e.2.size<=70
def eQ(s:ByteArray):Prop:=1<=s.size/\s.size<=40
theorem dA{id}{es:List En}:wf 0 (.leaf id es)↔es≠[]/\(∀e∈es,eOk e)/\lSz es<=240:=by rw[wf];rfl
theorem D8{L M}(h:kds L=kds M):L=M:=by rw[<-ct L,h,ct]
theorem bq{n id L}:wf (n+1) (.node id (kds L))↔L≠[]/\(∀x∈L,wf n x.2)/\(∀s∈sgs L,eQ s)/\nSz (sgs L)<=240:=by
 rw[wf];constructor
 ·rintro⟨M,h,a⟩;obtain rfl:=D8 h;exact a
 ·intro h;exact⟨L,rfl,h⟩
theorem aO{n t}(h:wf n t):(∃id es,n=0/\t= .leaf id es)\/∃id L m,n=m+1/\t= .node id (kds L):=by
 cases n with
 |zero=>cases t with
  |leaf id es=>exact v7 ⟨_,_,rfl,rfl⟩
  |_=>simp[wf]at h
 |succ n=>cases t with
  |node id ks=>
   rw[wf]at h;obtain⟨L,rfl,_⟩:=h;exact v6 ⟨_,_,_,rfl,rfl⟩
  |_=>simp[wf]at h
theorem D9{f:Type}(l:List f){a b}(h:a<=b):(l.take a++l.drop b).Sublist l:=by
 have d:=A5 a l;have e:(l.drop b).Sublist (l.drop a):=by
  rw[show b=a+(b-a)by omega,<-w7];exact List.drop_sublist _ _
 have c:=List.Sublist.append (List.Sublist.refl (l.take a)) e;rw[d]at c;exact c
theorem Ea{k v es e}(h:e∈fp k v es):e=(k,v)\/e∈es:=by
 unfold fp at h;simp only[w6,w3]at h;rcases h with h|h|h
 ·exact v6 (List.mem_of_mem_take h)
 ·exact v7 h
 ·exact v6 (List.mem_of_mem_drop h)
theorem wj(k v es):lSz (fp k v es)<=lSz es+eSz (k,v):=by
 unfold fp;have h:∀p q:Nat,p<=q->lSz (es.take p++(k,v)::es.drop q)<=lSz es+eSz (k,v):=fun p q a=>by
  have:=mv (D9 es a);rw[kK]at this;rw[kK,gz];omega
 exact h _ _ (by split<;>omega)
theorem Eb(k v es):fp k v es≠[]:=by unfold fp;simp
theorem wl:∀(es:List En)(a:Nat),a<=240->a+lSz (es.take (ctE a es))<=240
 |[],a,h=>by simpa [lSz]using h
 |e::es,a,h=>by
  rw[ctE];split
  ·rename_i b;have:=wl es (a+eSz e) b;rw[Nat.add_comm 1,BX,gz];omega
  ·simpa [lSz]using h
theorem ri:∀(es:List En)(a:Nat),240<a+lSz es->a<=240->ctE a es<es.length/\240<a+lSz (es.take (ctE a es))+eSz (es.getD (ctE a es) en0)
 |[],a,h,b=>by simp[lSz]at h;omega
 |e::es,a,h,b=>by
  rw[gz]at h;rw[ctE];split
  ·rename_i c;obtain⟨d,f⟩:=ri es (a+eSz e) uA c;rw[Nat.add_comm 1];refine⟨by simpa using d,?_⟩;rw[BX,gz];simp only[B1];omega
  ·simp[lSz];omega
theorem bO{a:Type}{l:List a}{i d}(h:i<l.length):l.getD i d∈l:=by
 rw[yc,wS h];exact za h
theorem mw{e}(h:eOk e):eSz e<=112:=by have:=h.2;unfold eSz;omega
def wfR(n:Nat)(r:Tr×Option Kd):Prop:=wf n r.1/\∀x,r.2=some x->wf n x.2/\eQ x.1
theorem Ec{es}(g:es≠[])(a:∀e∈es,eOk e)(j:lSz es<=352):wfR 0 (ctL es):=by
 unfold ctL;split
 ·rename_i h;have k:=wl es 0 uA;obtain⟨i,f⟩:=ri es 0 uA uA;have c:=a _ (bO (d:=en0) i);have m:=mw c;have l:lSz (es.take (ctE 0 es))+lSz (es.drop (ctE 0 es))=lSz es:=by rw[<-kK,A5]
  refine⟨dA.2 ⟨?_,fun e b=>a e (List.mem_of_mem_take b),uA⟩,?_⟩
  ·intro e;rw[e]at f;simp only[lSz,wz,List.sum_nil]at f;omega
  ·rintro x hx;cases hx;refine⟨dA.2 ⟨?_,fun e b=>a e (List.mem_of_mem_drop b),uA⟩,c.1,c.2.1⟩;intro e;have:=C1 List.length e;simp at this;omega
 ·exact⟨dA.2 ⟨g,a,uA⟩,fun x hx=>by cases hx⟩
theorem wm:∀(b:List ByteArray)(a:Nat),a<=240->a+aH (b.take (ctS a b))<=240
 |[],a,h=>by simpa [aH]using h
 |s::b,a,h=>by
  rw[ctS];split
  ·rename_i c;have:=wm b (a+gSz s) c.2;rw[Nat.add_comm 1,BX,fW];omega
  ·simpa [aH]using h
theorem oo:∀(b:List ByteArray)(a:Nat),2<=b.length->a<=240->ctS a b+2<=b.length/\(ctS a b+2=b.length\/240<a+aH (b.take (ctS a b))+gSz (b.getD (ctS a b) (strOfNums [])))
 |[],a,h,_=>by simp at h
 |s::b,a,h,f=>by
  rw[ctS];split
  ·rename_i c;obtain⟨g,i⟩:=oo b (a+gSz s) c.1 c.2;rw[Nat.add_comm 1];refine⟨by simp;omega,?_⟩;rw[BX,fW];simp only[B1,w8];omega
  ·rename_i c;refine⟨by simpa using h,?_⟩;simp only[List.take_zero,List.getD_cons_zero,aH,wz,List.sum_nil,w8];simp at h;by_cases d:2<=b.length
   ·have:¬(a+gSz s<=240):=fun e=>c ⟨d,e⟩;omega
   ·omega
theorem kL{s}(h:eQ s):gSz s<=45:=by have:=h.2;unfold gSz;omega
theorem oq:∀(a:List ByteArray),(∀s∈a,eQ s)->aH a<=45*a.length
 |[],_=>t6
 |s::a,h=>by
  have:=oq a (fun x hx=>h x (by simp[hx]));have:=kL (h s vo);rw[fW];simp;omega
theorem wn(L m):sgs (L.take (m+1))=(sgs L).take m:=by cases L<;>simp[sgs,List.map_take]
theorem wo(L m):sgs (L.drop m)=(sgs L).drop m:=by simp[sgs,List.map_drop,List.tail_drop]
theorem gC(L):(sgs L).length=L.length-1:=by simp[sgs]
theorem mx(L m):(sgs L).getD m (strOfNums [])=(L.getD (m+1) t0).1:=by
 simp only[sgs,yc,zP,List.getElem?_tail];cases L[m+1]?<;>rfl
theorem Ed{n L}(d:L≠[])(c:∀x∈L,wf n x.2)(b:∀s∈sgs L,eQ s)(f:nSz (sgs L)<=285):wfR (n+1) (ctN L):=by
 unfold ctN;split
 ·rename_i h;have l:=oq (sgs L) b;rw[dm]at h f;have g:6<=(sgs L).length:=uA;have o:=wm (sgs L) 4 uA;obtain⟨q,p⟩:=oo (sgs L) 4 uA uA;generalize r:ctS 4 (sgs L)=m at*;have j:=gC L;have k:aH ((sgs L).take m)+(gSz ((sgs L).getD m (strOfNums []))+aH ((sgs L).drop (m+1)))=aH (sgs L):=by
   rw[<-fW,<-iE];congr 1;rw[yc,wS uA,Option.getD_some,List.getElem_cons_drop,A5]
  have i:=oq ((sgs L).drop (m+1)) (fun s a=>b s (List.mem_of_mem_drop a));rw[wi]at i;refine⟨bq.2 ⟨?_,fun x hx=>c x (List.mem_of_mem_take hx),fun s a=>b s ?_,?_⟩,?_⟩
  ·intro e;have:=C1 List.length e;rw[wR,AO]at this;omega
  ·rw[wn]at a;exact List.mem_of_mem_take a
  ·rw[wn,dm];omega
  ·rintro x hx;cases hx;refine⟨bq.2 ⟨?_,fun x hx=>c x (List.mem_of_mem_drop hx),fun s a=>b s ?_,?_⟩,?_⟩
   ·intro e;have:=C1 List.length e;simp at this;omega
   ·rw[wo]at a;exact List.mem_of_mem_drop a
   ·rw[wo,dm];omega
   ·show eQ (L.getD (m+1) t0).1;rw[<-mx];exact b _ (bO uA)
 ·rename_i h;exact⟨bq.2 ⟨d,c,b,uA⟩,fun x hx=>by cases hx⟩
theorem my{a:Type}{l p}(d:a)(h:p<l.length):l.take p++l.getD p d::l.drop (p+1)=l:=by
 rw[yc,wS h,Option.getD_some,List.getElem_cons_drop,A5]
theorem Ee(x L):sgs (x::L)=L.map (·.1):=rfl
theorem rj{L:List Kd}{p}(h:p<L.length)(t)(o:List Kd):sgs (L.take p++((L.getD p t0).1,t)::(o++L.drop (p+1)))=(sgs L).take p++(o.map (·.1)++(sgs L).drop p):=by
 cases p with
 |zero=>
  cases L with
  |nil=>simp at h
  |cons x L=>simp[sgs]
 |succ p=>
  cases L with
  |nil=>simp at h
  |cons x L=>
   have a:p<L.length:=by simpa using h
   simp only[BX,z1,Ee,B1,List.drop_succ_cons]
   conv=>rhs;rw[<-A5 (p+1) (L.map (·.1))]
   simp only[AF,ws,BB,BC];rw[A5,x4 (by simpa using a)];simp[List.getD_eq_getElem?_getD,List.getElem?_eq_getElem a]
theorem jD{k L}(h:L≠[]):kid k L<L.length:=by
 have:=vZ k (sgs L);rw[gC]at this;have:=List.length_pos_iff.2 h;unfold kid;omega
theorem rl{k v}(l:eOk (k,v)):∀{n:Nat}{t:Tr},wf n t->wfR n (dh k v n t):=by
 intro n;induction n with
 |zero=>
  intro t h;rcases aO h with⟨id,es,_,rfl⟩|⟨id,L,m,e,_⟩
  ·obtain⟨j,b,c⟩:=dA.1 h;rw[dh]
   ·exact Ec (Eb _ _ _) (fun e f=>by rcases Ea f with rfl|f;exact l;exact b e f) (by have:=wj k v es;have:=mw l;omega)
  ·omega
 |succ n ih=>
  intro t h;rcases aO h with⟨id,es,e,_⟩|⟨id,L,m,e,rfl⟩
  ·omega
  ·obtain⟨j,b,c,o⟩:=bq.1 h;have g:=jD (k:=k) j;obtain⟨u,i⟩:=ih (b _ (bO (d:=t0) g));rw[dh];simp only[ct];generalize dh k v n (L.getD (kid k L) t0).2=r at*;generalize kid k L=p at*;apply Ed vo
   ·intro x hx;simp only[w6,w3,Option.mem_toList]at hx;rcases hx with hx|rfl|hx|hx
    ·exact b x (List.mem_of_mem_take hx)
    ·exact u
    ·exact(i x hx).1
    ·exact b x (List.mem_of_mem_drop hx)
   ·rw[rj g];intro s a;simp only[w6,x7,Option.mem_toList]at a;rcases a with a|⟨x,hx,rfl⟩|a
    ·exact c s (List.mem_of_mem_take a)
    ·exact(i x hx).2
    ·exact c s (List.mem_of_mem_drop a)
   ·rw[rj g,dm,iE,iE];have:aH ((sgs L).take p)+aH ((sgs L).drop p)=aH (sgs L):=by rw[<-iE,A5]
    rw[dm]at o;have:aH (r.2.toList.map (·.1))<=45:=by
     cases q:r.2 with
     |none=>simp[aH]
     |some x=>
      have:=kL (i x q).2;simpa [aH]using this
    omega
theorem jE{a b:Type}(f:a->b):∀(l:List a)(i:Nat),(l.eraseIdx i).map f=(l.map f).eraseIdx i
 |[],_=>rfl
 |x::l,0=>rfl
 |x::l,i+1=>by simp only[List.eraseIdx_cons_succ,ws];rw[jE f l i]
theorem wq(L q):sgs (L.eraseIdx (q+1))=(sgs L).eraseIdx q:=by
 cases L with
 |nil=>simp[sgs]
 |cons x L=>simp only[sgs,List.eraseIdx_cons_succ,List.tail_cons];exact jE _ L q
theorem Ef(L):sgs (L.eraseIdx 0)=(sgs L).tail:=by cases L<;>simp[sgs]
theorem rm{a:Type}(d):∀(l:List a)(i:Nat),l.set i (l.getD i d)=l
 |[],_=>rfl
 |x::l,0=>rfl
 |x::l,i+1=>by simp only[B1,BS];rw[rm d l i]
theorem ro(L p t):sgs (L.set p ((L.getD p t0).1,t))=sgs L:=by
 have h:(L.set p ((L.getD p t0).1,t)).map (·.1)=L.map (·.1):=by
  rw[List.map_set];show(L.map (·.1)).set p (L.getD p t0).1= _;have:(L.getD p t0).1=(L.map (·.1)).getD p (strOfNums []):=by
   simp only[yc,zP];cases L[p]?<;>rfl
  rw[this,rm]
 have a:∀M:List Kd,sgs M=(M.map (·.1)).tail:=fun M=>by simp[sgs,List.map_tail]
 rw[a,a,h]
theorem jF{a:Type}(l:List a)(i):(l.eraseIdx i).Sublist l:=List.eraseIdx_sublist l i
theorem mz{b:Type}{l:List b}{i a x}(h:x∈l.set i a):x=a\/x∈l:=by
 rcases List.mem_or_eq_of_mem_set h with h|h
 ·exact v6 h
 ·exact v7 h
theorem wt{b:Type}:∀(l:List b)(i:Nat)(a:b),(l.set i a).eraseIdx i=l.eraseIdx i
 |[],_,_=>rfl
 |x::l,0,a=>rfl
 |x::l,i+1,a=>by simp only[BS,List.eraseIdx_cons_succ];rw[wt l i a]
theorem wu{L s M}(a:L≠[])(b:M≠[]):sgs (L++kx s M)=sgs L++s::sgs M:=by
 cases L with
 |nil=>exact absurd rfl a
 |cons x L=>cases M with
  |nil=>exact absurd rfl b
  |cons y M=>simp[sgs,kx]
theorem ww{s}:∀{M:List Kd}{x:Kd},x∈kx s M->∃y∈M,x.2=y.2
 |[],x,h=>by simp[kx]at h
 |y::M,x,h=>by
  rw[kx,w3]at h;rcases h with rfl|h
  ·exact⟨y,vo,rfl⟩
  ·exact⟨x,by simp[h],rfl⟩
theorem Eg{n a b s}(k:wf n a)(g:wf n b)(r:eQ s)(i:¬240<szT (dL a s b)):wf n (dL a s b):=by
 rcases aO k with⟨id,es,rfl,rfl⟩|⟨id,L,m,rfl,rfl⟩
 ·rcases aO g with⟨d,o,_,rfl⟩|⟨d,L,m,e,_⟩
  ·obtain⟨f,j,p⟩:=dA.1 k;obtain⟨k0,l,q⟩:=dA.1 g;rw[dL]at i ⊢;refine dA.2 ⟨by simp[f],fun e c=> ?_,by rw[szT]at i;omega⟩;rcases w6.1 c with c|c
   ·exact j e c
   ·exact l e c
  ·omega
 ·rcases aO g with⟨d,o,e,_⟩|⟨d,M,w,e,rfl⟩
  ·omega
  ·obtain⟨f,j,p,u⟩:=bq.1 k;obtain⟨k0,l,q,v⟩:=bq.1 g;rw[dL,ct,ct]at i ⊢;rw[szT,ct]at i;refine bq.2 ⟨by simp[f],fun x hx=> ?_,?_,uA⟩
   ·rcases w6.1 hx with hx|hx
    ·exact j x hx
    ·obtain⟨y,t,e⟩:=ww hx;rw[e];exact l y t
   ·rw[wu f k0];intro x hx;rcases w6.1 hx with hx|hx
    ·exact p x hx
    ·rcases w3.1 hx with rfl|hx
     ·exact r
     ·exact q x hx
structure KsF(n:Nat)(L:List Kd):Prop where
 each:∀x∈L,wf n x.2
 sgn:∀s∈sgs L,eQ s
 fit:nSz (sgs L)<=240
theorem KsF.sub{n L M}(h:KsF n L)(b:∀x∈M,wf n x.2)(a:(sgs M).Sublist (sgs L)):KsF n M:=⟨b,fun s c=>h.sgn s (a.subset c),by have:=D4 a;have:=h.fit;omega⟩
theorem Eh{n L}(h:KsF n L){p}(o:p<L.length){d}(l:bare d=false->wf n d):KsF n (fE (L.set p ((L.getD p t0).1,d)) p):=by
 have k:((L.set p ((L.getD p t0).1,d)).getD p t0).2=d:=by simp[List.getD_eq_getElem?_getD,o]
 have g:=ro L p d;unfold fE;simp only[k,BD];cases i:bare d with
 |true=>
  rw[B4 rfl,wt];refine h.sub (fun x hx=>h.each x ((jF _ _).subset hx)) ?_;cases p with
  |zero=>rw[Ef];exact List.tail_sublist _
  |succ p=>rw[wq];exact jF _ _
 |false=>
  rw[CH uB];have a:KsF n (L.set p ((L.getD p t0).1,d)):=h.sub (fun x hx=>by
   rcases mz hx with rfl|hx
   ·exact l i
   ·exact h.each x hx) (by rw[g];exact List.Sublist.refl _)
  have s:(L.set p ((L.getD p t0).1,d)).length=L.length:=by simp
  generalize L.set p ((L.getD p t0).1,d)=M at*;split
  ·exact a
  ·rename_i r;have q:max p 1<M.length:=uA;have c:max p 1-1<M.length:=uA;have b:max p 1=(max p 1-1)+1:=uA;have e:eQ (M.getD (max p 1) t0).1:=by
    rw[b,<-mx];exact a.sgn _ (bO (by rw[gC];omega))
   split
   ·exact a
   ·rename_i f;have m:=Eg (a.each _ (bO (d:=t0) c)) (a.each _ (bO (d:=t0) q)) e f;refine a.sub (fun x hx=> ?_) ?_
    ·rcases mz ((jF _ _).subset hx)with rfl|hx
     ·exact m
     ·exact a.each x hx
    ·generalize dL _ _ _=j;rw[b,wq,<-b,ro];exact jF _ _
theorem wD(k es):(ra k es).Sublist es:=jF _ _
theorem kM{k}:∀{n:Nat}{t:Tr},wf n t->bare (bN k n t)=false->wf n (bN k n t):=by
 intro n;induction n with
 |zero=>
  intro t h a;rcases aO h with⟨id,es,_,rfl⟩|⟨id,L,m,e,_⟩
  ·obtain⟨f,b,g⟩:=dA.1 h;rw[bN]at a ⊢;refine dA.2 ⟨(fun e=>by rw[bare,e]at a;cases a),fun e l=>b e ((wD k es).subset l),by have:=mv (wD k es);omega⟩
  ·omega
 |succ n ih=>
  intro t h a;rcases aO h with⟨id,es,e,_⟩|⟨id,L,m,e,rfl⟩
  ·omega
  ·obtain⟨f,b,g,j⟩:=bq.1 h;have i:=jD (k:=k) f;have c:=Eh ⟨b,g,j⟩ i (ih (b _ (bO (d:=t0) i)));rw[bN]at a ⊢;simp only[ct]at a ⊢;rw[bare,ct]at a;exact bq.2 ⟨(fun e=>by rw[e]at a;cases a),c.each,c.sgn,c.fit⟩
theorem rp(t):dM 0 t=(0,t):=by cases t<;>rfl
theorem Ei:∀{n:Nat}{t:Tr},wf n t->wf (dM n t).1 (dM n t).2:=by
 intro n;induction n with
 |zero=>intro t h;rw[rp];exact h
 |succ n ih=>
  intro t h;rcases aO h with⟨id,es,e,_⟩|⟨id,L,m,e,rfl⟩
  ·omega
  ·rw[dM,ct];split
   ·exact ih ((bq.1 h).2.1 _ vo)
   ·exact h
theorem wF:∀(n:Nat)(t:Tr),(dM n t).1<=n
 |0,t=>by rw[rp];exact t6
 |n+1,.node id ks=>by
  rw[dM];split
  ·have:=wF n;exact Nat.le_succ_of_le (this _)
  ·exact t6
 |n+1,.leaf _ _=>t6
 |n+1,.nil=>t6
 |n+1,.cons _ _ _=>t6
def wfO:OTr->Prop
 |none=>True
 |some x=>wf x.1 x.2
def dpO:OTr->Nat
 |none=>0
 |some x=>x.1
theorem wG{k v d}(a:eOk (k,v)):∀{o:OTr},wfO o->wfO (chg k v d o).1/\dpO (chg k v d o).1<=dpO o+1
 |none,_=>by
  rw[chg];cases d with
  |true=>exact⟨trivial,by simp[dpO]⟩
  |false=>
   refine⟨(dA (id:=0)).2 ⟨vo,fun e f=> ?_,?_⟩,by simp[dpO]⟩
   ·simp at f;subst f;exact a
   ·have:=mw a;simp[lSz];omega
 |some (n,t),h=>by
  rw[chg];cases d with
  |true=>
   simp only[if_true];split
   ·cases l:bare (bN k n t)with
    |true=>exact⟨trivial,by simp[dpO]⟩
    |false=>exact⟨Ei (kM h l),by have:=wF n (bN k n t);simp[dpO];omega⟩
   ·exact⟨h,by simp[dpO]⟩
  |false=>
   have b:=rl a h;generalize dh k v n t=r at*;obtain⟨u,o⟩:=r;cases o with
   |none=>exact⟨b.1,by simp[dpO]⟩
   |some x=>
    obtain⟨j,c⟩:=b.2 x rfl;refine⟨(bq (id:=0)).2 ⟨vo,fun y i=> ?_,fun s g=> ?_,?_⟩,by simp[dpO]⟩
    ·simp at i;rcases i with rfl|rfl;exact b.1;exact j
    ·simp[sgs]at g;subst g;exact c
    ·have:=kL c;simp[nSz,sgs];omega
section
structure RNd(w:World)(v:NdV)(K:NdK):Prop where
 keys:R1 9 w v.ka K.keys.length v.kc (os K.keys)
 vals:R1 9 w v.va K.vals.length v.vc (os K.vals)
 kids:R1 3 w v.da K.kids.length v.dc (on K.kids)
 signs:R1 9 w v.sa K.signs.length v.sc (os K.signs)
theorem RNd.keep{w w' v K}(h:RNd w v K)(a:KeepT 9 w w')(b:KeepT 3 w w'):RNd w' v K:=⟨h.keys.keep a,h.vals.keep a,h.kids.keep b,h.signs.keep a⟩
theorem RNd.below{w w' v K}(h:RNd w v K)(a:Below w.1.size w w'):RNd w' v K:=h.keep (aV a) (aV a)
theorem ONd.rnd{B w v K}(h:ONd B w v K):RNd w v K:=⟨h.keys.r1 (dR _),h.vals.r1 (dR _),h.kids.r1 (fw _),h.signs.r1 (dR _)⟩
def ucs(na:Option Addr)(n nc:Nat)(rt:Int)(rest:List Value):List Value:= .slice na n nc:: .int .i64 rt::rest
structure USt(B0 g:Nat)(rest:List Value)(rt:Int)(w:World)(ns:List NdK)(nv:Nat->NdV)(na:Option Addr)(nc:Nat):Prop where
 blk:Blk w 116 g (ucs na ns.length nc rt rest)
 nodes:ORow 176 6 B0 w na ns.length nc (cd nv ns)
 each:∀i,i<ns.length->RNd w (nv i) (ns.getD i nd0)
 gB:B0<=w.1.size
variable {B0 g:Nat} {rest:List Value} {rt:Int} {w w':World} {ns:List NdK} {nv:Nat->NdV} {na:Option Addr} {nc:Nat}
theorem TSt.ust{sb N seen tall bad}(h:TSt B0 g sb N rt w ns nv na nc seen tall bad):USt B0 g [.slice (some ⟨sb,0,none⟩) N N,.int .i64 tall,.bool bad] rt w ns nv na nc:=⟨h.blk,h.nodes,fun i a=>(h.each i a).rnd,h.gB⟩
theorem USt.below(h:USt B0 g rest rt w ns nv na nc)(a:Below w.1.size w w'):USt B0 g rest rt w' ns nv na nc:=
 ⟨h.blk.below a,h.nodes.below a,fun i b=>(h.each i b).below a,wg h.gB a.size⟩
def UZ(g:Nat)(na:Option Addr)(k:Nat):Prop:=k=g\/na=some ⟨k,0,none⟩
abbrev UFr(g:Nat)(na:Option Addr)(w w':World):Prop:=OnlyS (UZ g na) w w'
theorem USt.zty(h:USt B0 g rest rt w ns nv na nc){k}(b:UZ g na k):∃cs t,(t=116\/t=176)/\w.heap[k]?=some (.cells cs t (0,0)):=by
 rcases b with rfl|rfl
 ·exact⟨_,_,v7 rfl,h.blk⟩
 ·obtain⟨_,c,a⟩:=h.nodes.blk;exact⟨_,_,v6 rfl,a⟩
theorem USt.keepT(h:USt B0 g rest rt w ns nv na nc)(f:UFr g na w w'){t}(d:t≠116)(e:t≠176):KeepT t w w':=
 ⟨f.size,fun k cs fr b=>by
  rw[f.block k (wy.1 b).1 (fun i=> ?_)]
  ·exact b
  ·obtain⟨j,l,a,c⟩:=h.zty i;rw[b]at c;cases c;rcases a with a|a
   ·exact d a
   ·exact e a⟩
theorem UFr.step{b w1 c}(f:UFr g na w w1)(d:UFr g b w1 c)(e:b=na\/∃k,b=some ⟨k,0,none⟩/\w.1.size<=k):UFr g na w c:=
 f.transN d (fun k i a=>by
  rcases a with a|a
  ·exact v7 a
  ·rcases e with rfl|⟨k1,rfl,hk1⟩
   ·exact v6 a
   ·cases a;omega)
theorem ot(nv ns n):IsRow 6 (cd nv ns) n:=⟨fun _ _=>rfl,fun i _=>eo _ _⟩
theorem USt.cells(h:USt B0 g rest rt w ns nv na nc){p K}(f:ns[p]?=some K):
 ∃b,na=some ⟨b,0,none⟩/\(∀j v,(ndc (nv p) K)[j]?=some v->w.cell? ⟨b,p*6+j,none⟩=some v)/\RNd w (nv p) K/\p<ns.length:=by
 have a:=(wC.1 f).1;have R:=h.nodes.reads (ot nv ns _);have d:ns.getD p nd0=K:=by rw[List.getD,f];rfl
 rcases h.nodes.2 with⟨_,m⟩|⟨b,k,l,e,_⟩
 ·omega
 ·simp only[D5]at e;have c:=e.1;rw[c]at R;refine⟨b,c,fun j v i=>by have:=R.cells p a j v (by unfold cd;rw[d];exact i);rwa [wE]at this,?_,a⟩;have:=h.each p a;rw[d]at this;exact this
theorem USt.push{a}(h:USt B0 g rest rt w ns nv na nc){v K}(o:RNd w v K){d c}(u:ORow 176 6 B0 a (some ⟨d,0,none⟩) (ns.length+1) c (cH (cd nv ns) ns.length (ndc v K)))(r:Below B0 w a)(s:(w.alloc (.cells (ndc v K).toArray 176)).grownBy a (Value.slice na ns.length nc).ownBlock):
 USt B0 g rest rt (a.setCell ⟨g,0,none⟩ (.slice (some ⟨d,0,none⟩) (ns.length+1) c)) (ns++[K]) (eA nv ns.length v) (some ⟨d,0,none⟩) c:=by
 have q:=bAl w (.cells (ndc v K).toArray 176);have j:∀t,176≠t->KeepT t w a:=fun t l=>(aV q).trans (bD (bQ h.nodes q) s l);have p:Blk a 116 g _:=h.blk.keepT (j _ uB);have n:=ax a g 0 (.slice (some ⟨d,0,none⟩) (ns.length+1) c);have b:∀t,116≠t->KeepT t a (a.setCell ⟨g,0,none⟩ (.slice (some ⟨d,0,none⟩) (ns.length+1) c)):=fun t l=>aw n p l;refine⟨?_,?_,fun i k=> ?_,wg h.gB (wg r.size n.size)⟩
 ·rw[wb];exact p.set 0 (.slice (some ⟨d,0,none⟩) (ns.length+1) c)
 ·have x:=cw u (b _ uB);rw[wb];refine ORow.congr (f:=cH (cd nv ns) ns.length (ndc v K)) x (fun i k=> ?_);have m:i<ns.length+1:=k;by_cases e:i=ns.length
  ·subst e;rw[iJ];unfold cd;rw[jA];simp
  ·rw[jQ _ _ uA];unfold cd;rw[jB _ _ uA];simp[List.getD,List.getElem?_append_left (show i<ns.length by omega)]
 ·rw[wb]at k;have m:i<ns.length+1:=k;by_cases e:i=ns.length
  ·subst e;rw[jA];have:(ns++[K]).getD ns.length nd0=K:=by simp
   rw[this];exact(o.keep (j _ uB) (j _ uB)).keep (b _ uB) (b _ uB)
  ·rw[jB _ _ uA];have:(ns++[K]).getD i nd0=ns.getD i nd0:=by simp[List.getD,List.getElem?_append_left (show i<ns.length by omega)]
   rw[this];exact((h.each i uA).keep (j _ uB) (j _ uB)).keep (b _ uB) (b _ uB)
theorem UFr.push{c K v u}(h:USt B0 g rest rt w ns nv na nc)(f:(w.alloc (.cells (ndc v K).toArray 176)).grownBy c (Value.slice na ns.length nc).ownBlock):UFr g na w (c.setCell ⟨g,0,none⟩ u):=by
 have f1:=(OnlyS.ofBelow (Z:=UZ g na) (bAl _ _)).trans ((OnlyS.ofGrown f).mono (fun k _ a=>by
  rcases h.nodes.2 with⟨b,_⟩|⟨i,d,e,b,_⟩
  ·rw[b]at a;simp[Value.ownBlock]at a
  ·rw[b]at a;simp[Value.ownBlock]at a;simp only[D5]at b;subst a;exact v6 b.1))
 exact f1.trans ((OnlyS.ofB (ax c g 0 u)).mono (fun k _ a=>v7 a))
theorem USt.store(h:USt B0 g rest rt w ns nv na nc){b p}(E:na=some ⟨b,0,none⟩){v K}(o:RNd w v K)(F:p<ns.length){a}(m:w.heap[b]?=some (.cells a 176 (0,0))):
 USt B0 g rest rt (w.setRow b (a.toList.take (p*6)++ndc v K++a.toList.drop (p*6+(ndc v K).length)).toArray) (ns.set p K) (eA nv p v) na nc:=by
 subst E;generalize q:w.setRow b (a.toList.take (p*6)++ndc v K++a.toList.drop (p*6+(ndc v K).length)).toArray=H;obtain⟨l,L,y⟩:(ns.length<=nc/\nc<=maxLen)/\a.size=nc*6/\a.toList.take (ns.length*6)=aK (cd nv ns) ns.length:=by
  rcases h.nodes.2 with⟨c,_⟩|⟨M,z,A,c,N,r,k,n,C,D⟩
  ·cases c
  ·cases c;rw[m]at r;cases r;exact⟨⟨k,n⟩,C,D⟩
 have x:OnlyB b w H:=by rw[<-q];exact du w b _
 have f:∀t,176≠t->KeepT t w H:=fun t G=>cx x m G;refine⟨by rw[BD];exact h.blk.keepT (f _ uB),?_,fun i d=> ?_,wg h.gB x.size⟩
 ·have hx:(ndc v K).length=6:=rfl;have J:p*6+6<=ns.length*6:=uA;have I:ns.length*6<=a.toList.length:=by have:=Array.length_toList (xs:=a);omega
  have c:(a.toList.take (p*6)++ndc v K++a.toList.drop (p*6+(ndc v K).length)).take (ns.length*6)=aK (cH (cd nv ns) p (ndc v K)) ns.length:=by
   rw[<-th (s:=6) (cd nv ns) (ndc v K) rfl ns.length p F (ot nv ns _),<-y,hx];apply zb;intro j;by_cases u:j<ns.length*6
   ·rw[List.getElem?_take_of_lt u];simp only[List.getElem?_append,wb,wR,List.getElem?_take,List.getElem?_drop,hx];by_cases k:j<p*6
    ·rw[B4 uA,B4 uA,B4 k,B4 uA,B4 uA,B4 k,B4 uA]
    ·by_cases n:j<p*6+6
     ·rw[B4 uA,CH uA,B4 uA,CH uA];congr 1;omega
     ·rw[CH uA,CH uA];have:p*6+6+(j-(min (p*6) a.toList.length+6))=j:=uA;rw[this];have:p*6+6+(j-(min (p*6) (min (ns.length*6) a.toList.length)+6))=j:=uA;rw[this,B4 u]
   ·rw[x8 (by rw[wR];omega),x8];simp only[wb,wR,wi,hx];omega
  have B:aK (cH (cd nv ns) p (ndc v K)) ns.length=aK (cd (eA nv p v) (ns.set p K)) ns.length:=lI _ (fun i d=>by
   by_cases e:i=p
   ·subst e;have:(ns.set i K).getD i nd0=K:=by simp[List.getD_eq_getElem?_getD,d]
    rw[iJ];unfold cd;rw[this,jA]
   ·have:(ns.set p K).getD i nd0=ns.getD i nd0:=by simp[List.getD_eq_getElem?_getD,List.getElem?_set_ne (Ne.symm e)]
    unfold cd cH eA;rw[this,CH e,CH e])
  rw[BD];refine⟨gU _ (ot _ _ _),v6 ⟨b,nc,(a.toList.take (p*6)++ndc v K++a.toList.drop (p*6+(ndc v K).length)).toArray,rfl,(cE h.nodes b (by simp[rb])).1,?_,l.1,l.2,?_,?_⟩⟩
  ·rw[<-q];exact setRow_heap w b a _ _ _ m
  ·simp only[wA,wb,wR,wi,hx];have:=Array.length_toList (xs:=a);omega
  ·rw[<-B,<-c]
 ·rw[BD]at d;by_cases e:i=p
  ·subst e;have:(ns.set i K).getD i nd0=K:=by simp[List.getD_eq_getElem?_getD,d]
   rw[this];simp only[eA,if_true];exact o.keep (f _ uB) (f _ uB)
  ·have:(ns.set p K).getD i nd0=ns.getD i nd0:=by simp[List.getD_eq_getElem?_getD,List.getElem?_set_ne (Ne.symm e)]
   rw[this];simp only[eA,CH e];exact(h.each i d).keep (f _ uB) (f _ uB)
end
theorem rq(l):(strOfNums l).size=l.length:=C0 l
theorem Ej:∀(n:Nat)(l:List Int)(es:List En),l.length<=n->lfP l=some es->lSz es=l.length/\∀e∈es,eOk e:=by
 intro n;induction n with
 |zero=>
  intro l es i h;rw[jg uA]at h;cases h;exact⟨by simp[lSz];omega,fun e a=>by simp at a⟩
 |succ n ih=>
  intro l es i h;by_cases c:l.length=0
  ·rw[jg c]at h;cases h;exact⟨by simp[lSz];omega,fun e a=>by simp at a⟩
  ·cases b:ee l with
   |false=>rw[iL c b]at h;cases h
   |true=>
    rw[nf b]at h;obtain⟨xs,g,rfl⟩:=x5.1 h;have o:=gI.1 b;have m:(l.drop (fu l)).length=l.length-(2+lfK l+lfV l):=by rw[wi];rfl
    obtain⟨j,k⟩:=ih _ xs uA g;have d:(cU l).size=lfK l:=by unfold cU;rw[rq,wR,wi];omega
    have f:(fh l).size=lfV l:=by unfold fh;rw[rq,wR,wi];omega
    refine⟨?_,fun e a=> ?_⟩
    ·rw[gz,j];simp only[eSz,d,f];omega
    ·rcases w3.1 a with rfl|a
     ·simp only[eOk,d,f];omega
     ·exact k e a
theorem Ek:∀(n:Nat)(l:List Int)(ls:List (ByteArray×Int)),l.length<=n->lnP l=some ls->aH (ls.map (·.1))=l.length/\∀s∈ls.map (·.1),eQ s:=by
 intro n;induction n with
 |zero=>
  intro l es g h;rw[gZ uA]at h;cases h;exact⟨by simp[aH];omega,fun e a=>by simp at a⟩
 |succ n ih=>
  intro l es g h;by_cases c:l.length=0
  ·rw[gZ c]at h;cases h;exact⟨by simp[aH];omega,fun e a=>by simp at a⟩
  ·cases b:eJ l with
   |false=>rw[ji c b]at h;cases h
   |true=>
    rw[j4 b]at h;obtain⟨xs,f,rfl⟩:=x5.1 h;have m:=gJ.1 b;have k:(l.drop (5+lfK l)).length=l.length-(5+lfK l):=by rw[wi]
    obtain⟨i,j⟩:=ih _ xs uA f;have d:(cU l).size=lfK l:=by unfold cU;rw[rq,wR,wi];omega
    refine⟨?_,fun e a=> ?_⟩
    ·rw[ws,fW,i];simp only[gSz,d];omega
    ·rcases w3.1 a with rfl|a
     ·simp only[eQ,d];omega
     ·exact j e a
theorem El{l ls}(e:l.length<=240)(h:inP l=some ls):ls≠[]/\nSz (ls.tail.map (·.1))<=240/\∀s∈ls.tail.map (·.1),eQ s:=by
 unfold inP at h;split at h
 ·rename_i d;obtain⟨xs,a,rfl⟩:=x5.1 h;obtain⟨b,c⟩:=Ek _ _ xs t6 a;rw[wi]at b;refine⟨vo,?_,c⟩;rw[List.tail_cons,dm];omega
 ·cases h
def TlP(f:Nat)(s:Int)(st:St)(st':St)(Q:Nat->Prop):Prop:= ∃n:Nat,n<f/\Q n/\st'.tall=s+n/\(0<=st.tall->st'.tall=st.tall)
theorem wH{r f s}(F:0<=s)(k:∀b id t a,r b id=some (t,a)->TlP f s b a (fun n=>wf n t)):∀(ls:List (ByteArray×Int))(b:St)(t:Tr)(a:St),ls≠[]->rdK r ls b=some (t,a)->∃L:List Kd,t=kds L/\L.map (·.1)=ls.map (·.1)/\TlP f s b a (fun n=> ∀x∈L,wf n x.2)
 |[],b,t,a,h,_=>absurd rfl h
 |(g,id)::ls,b,t,a,_,h=>by
  rw[rdK]at h;obtain⟨x,A,B⟩:=xc.1 h;obtain⟨y,d,C⟩:=xc.1 B;cases C;obtain⟨n,E,i,l,j⟩:=k b id x.1 x.2 A;cases ls with
  |nil=>
   rw[rdK]at d;cases d;exact⟨[(g,x.1)],rfl,rfl,n,E,(fun H c=>by simp at c;subst c;exact i),l,j⟩
  |cons q G=>
   obtain⟨L,o,p,m,D,u,v,w⟩:=wH F k (q::G) x.2 y.1 y.2 vo d;have e:=w uA;have:m=n:=uA;subst this;refine⟨(g,x.1)::L,by rw[o];rfl,by simp[p],m,D,fun H c=> ?_,v,fun z=>by rw[e];exact j z⟩;rcases w3.1 c with rfl|c
   ·exact i
   ·exact u H c
theorem wJ{P}(j:∀t,P.ok t=true->(P.bd t).length<=240):∀(f:Nat)(steps:Int)(b:St)(id:Int)(t:Tr)(a:St),0<=steps->rdT P f steps b id=some (t,a)->TlP f steps b a (fun n=>wf n t)
 |0,steps,b,id,t,a,_,h=>by rw[rdT]at h;cases h
 |f+1,steps,b,id,t,a,B,h=>by
  rw[rdT]at h;split at h
  ·rename_i k;have v:=j id (fO.1 k).1;split at h
   ·split at h
    ·rename_i E;obtain⟨es,d,c⟩:=xc.1 h;split at c
     ·cases c
     ·rename_i w;cases c;obtain⟨F,x⟩:=Ej _ _ es t6 d;exact⟨0,uA,dA.2 ⟨fun e=>w (by rw[e];rfl),x,uA⟩,vo,fun C=>by show steps=b.tall;omega⟩
    ·cases h
   ·obtain⟨ls,d,c⟩:=xc.1 h;obtain⟨y,r,u⟩:=x5.1 c;cases u;obtain⟨l,z,A⟩:=El v d;obtain⟨L,q,g,n,D,m,o,p⟩:=wH (s:=steps+1) uA (fun b id t a=>wJ j f (steps+1) b id t a uA) ls _ y.1 y.2 l r;have i:sgs L=ls.tail.map (·.1):=by unfold sgs;rw[List.map_tail,g,List.map_tail]
    refine⟨n+1,uA,?_,by rw[o];omega,p⟩;show wf (n+1) (.node id y.1);rw[q];exact bq.2 ⟨(fun e=>by subst e;apply l;simpa using g),m,by rw[i];exact A,by rw[i];exact z⟩
  ·cases h
