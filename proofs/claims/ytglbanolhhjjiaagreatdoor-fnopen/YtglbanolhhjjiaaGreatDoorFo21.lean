import Derived.Test.YtglbanolhhjjiaaGreatDoorFo20
import Derived.Test.YtglbanolhhjjiaaGreatDoorFo11
namespace Go.Proofs.YtglbanolhhjjiaaGreatDoor
open Go.Proofs.Tryz
open Go.RowKit
set_option linter.unusedVariables false
set_option maxRecDepth 100000
set_option maxHeartbeats 32000000
theorem v8(l k):(os l).take k=os (l.take k):=by simp[os,List.map_take]
theorem wd(l k):(os l).drop k=os (l.drop k):=by simp[os,List.map_drop]
theorem we(l k):(on l).take k=on (l.take k):=by simp[on,List.map_take]
theorem rc(l k):(on l).drop k=on (l.drop k):=by simp[on,List.map_drop]
def eE{α:Type}(l:List α)(k:Nat)(s:α):List α:=l.take k++s::l.drop k
def dx{α:Type}(l:List α)(k:Nat):List α:=l.take k++l.drop (k+1)
theorem re{a:Type}{l k}(s:a)(b:k<=l.length):(eE l k s).length=l.length+1:=by simp[eE];omega
theorem ky{a:Type}{l:List a}{k}(b:k<l.length):(dx l k).length=l.length-1:=by simp[dx];omega
theorem oh(l a n c k s w)(h:R1 9 w a n c (os l))(r:k<=n)(T:n<=1000000):
 Calls prog 161 #[.slice a n c,.int .i64 (k:Nat),.string s] w fun e w'=> ∃j q,e= .returned (.slice j (n+1) q)/\Below w.1.size w w'/\Own1 9 w.1.size w' j (n+1) q (os (eE l k s)):=by
 have b:=bAl w (.cells #[] 9);have u:=fU 9 w.1.size w t1;have A:=h.below b;have E:Hid _:=h;clear h;go_enter func161,ntmps161;go_upto_region 2 with fail
 generalize w.alloc (.cells #[] 9)=X at*;go_wp2_with (refine iM bM A r rfl rfl rfl rfl ?_);intro N Q B;go_wp2_with (at_builtin;refine ir bM u B t7 t7 b.size rfl rfl rfl rfl ?_);intro F H U v m J;have i:=b.trans m;have t:=i.size;clear u A B b m J;go_wp2_with (at_builtin;refine lN rfl _ _ bM rfl w.1.size F k H _ rfl v (.string s) rfl rfl t7 t7 t ?_);intro O R V x o K;have d:=i.trans o;have C:=E.out.below d;have f:=d.size;clear v i t o K;go_wp2_with (refine ni bM C r rfl rfl rfl rfl ?_);intro P S D;go_wp2_with (at_builtin;refine ir bM x D t7 t7 f rfl rfl rfl rfl ?_);intro G I W y p L;have z:=d.trans p;have g:=t6 z y;have M:Hid (k+1+(n-k)=n+1):=by show _= _;omega
 clear x C D d p L z y f;go_wp2_with fail;go_ret;rw[M.out]at g ⊢;exact⟨G,I,rfl,g.out.1,by have:=g.out.2;rw[v8,wd]at this;simpa [eE,os]using this⟩
theorem kz(l a n c k w)(h:R1 9 w a n c (os l))(q:k<n)(M:n<=1000000):
 Calls prog 159 #[.slice a n c,.int .i64 (k:Nat)] w fun e w'=> ∃j p,e= .returned (.slice j (n-1) p)/\Below w.1.size w w'/\Own1 9 w.1.size w' j (n-1) p (os (dx l k)):=by
 have b:=bAl w (.cells #[] 9);have r:=fU 9 w.1.size w t1;have v:=h.below b;have A:Hid _:=h;clear h;go_enter func159,ntmps159;go_upto_region 2 with fail
 generalize w.alloc (.cells #[] 9)=P at*;go_wp2_with (refine iM bM v (z2 q) rfl rfl rfl rfl ?_);intro G J x;go_wp2_with (at_builtin;refine ir bM r x t7 t7 b.size rfl rfl rfl rfl ?_);intro H K N s m D;have d:=b.trans m;have y:=A.out.below d;have f:=d.size;clear r v x b m D;go_wp2_with (refine ni (i:=k+1) bM y q rfl rfl rfl (by go_num) ?_);intro I L z;go_wp2_with (at_builtin;refine ir bM s z t7 t7 f rfl rfl rfl rfl ?_);intro B C O t o E;have u:=d.trans o;have g:=t6 u t;have F:Hid (k+(n-(k+1))=n-1):=by show _= _;omega
 clear s y z d o E u t f;go_wp2_with fail;go_ret;rw[F.out]at g ⊢;exact⟨B,C,rfl,g.out.1,by have:=g.out.2;rw[v8,wd]at this;simpa [dx,os]using this⟩
theorem DY(l a n c k s w)(h:R1 3 w a n c (on l))(r:k<=n)(T:n<=1000000):
 Calls prog 164 #[.slice a n c,.int .i64 (k:Nat),.bool true,.int .i64 s] w fun e w'=> ∃j q,e= .returned (.slice j (n+1) q)/\Below w.1.size w w'/\Own1 3 w.1.size w' j (n+1) q (on (eE l k s)):=by
 have b:=bAl w (.cells #[] 3);have u:=fU 3 w.1.size w t1;have A:=h.below b;have E:Hid _:=h;clear h;go_enter func164,ntmps164;go_upto_region 2 with fail
 generalize w.alloc (.cells #[] 3)=X at*;go_wp2_with (refine iM co A r rfl rfl rfl rfl ?_);intro N Q B;go_wp2_with (at_builtin;refine ir co u B t7 t7 b.size rfl rfl rfl rfl ?_);intro F H U v m J;have i:=b.trans m;have t:=i.size;clear u A B b m J;go_wp2_with (at_builtin;refine lN rfl _ _ co rfl w.1.size F k H _ rfl v (.int .i64 s) rfl rfl t7 t7 t ?_);intro O R V x o K;have d:=i.trans o;have C:=E.out.below d;have f:=d.size;clear v i t o K;go_wp2_with (refine ni co C r rfl rfl rfl rfl ?_);intro P S D;go_wp2_with (at_builtin;refine ir co x D t7 t7 f rfl rfl rfl rfl ?_);intro G I W y p L;have z:=d.trans p;have g:=t6 z y;have M:Hid (k+1+(n-k)=n+1):=by show _= _;omega
 clear x C D d p L z y f;go_wp2_with fail;go_ret;rw[M.out]at g ⊢;exact⟨G,I,rfl,g.out.1,by have:=g.out.2;rw[we,rc]at this;simpa [eE,on]using this⟩
theorem wh(l a n c k s w)(h:R1 3 w a n c (on l))(q:k<n)(N:n<=1000000):
 Calls prog 164 #[.slice a n c,.int .i64 (k:Nat),.bool false,.int .i64 s] w fun e w'=> ∃j p,e= .returned (.slice j (n-1) p)/\Below w.1.size w w'/\Own1 3 w.1.size w' j (n-1) p (on (dx l k)):=by
 have b:=bAl w (.cells #[] 3);have r:=fU 3 w.1.size w t1;have x:=h.below b;have B:Hid _:=h;clear h;go_enter func164,ntmps164;go_upto_region 2 with fail
 generalize w.alloc (.cells #[] 3)=Q at*;go_wp2_with (refine iM co x (z2 q) rfl rfl rfl rfl ?_);intro H K y;go_wp2_with (at_builtin;refine ir co r y t7 t7 b.size rfl rfl rfl rfl ?_);intro I L O t m E;have d:=b.trans m;have z:=B.out.below d;have f:=d.size;clear r x y b m E;go_wp2_with (refine ni (i:=k+1) co z q rfl rfl rfl (by go_num) ?_);intro J M A;go_wp2_with (at_builtin;refine ir co t A t7 t7 f rfl rfl rfl rfl ?_);intro C D P u o F;have v:=d.trans o;have g:=t6 v u;have G:Hid (k+(n-(k+1))=n-1):=by show _= _;omega
 clear t z A d o F v u f;go_wp2_with fail;go_ret;rw[G.out]at g ⊢;exact⟨C,D,rfl,g.out.1,by have:=g.out.2;rw[we,rc]at this;simpa [dx,on]using this⟩
theorem rf{e:Type}{f}:∀{l:List e}{j:Nat}(d:e),j<=(l.takeWhile f).length->j<l.length->(f (l.getD j d)=true↔j< (l.takeWhile f).length)
 |[],j,d,_,g=>by simp at g
 |x::l,0,d,a,_=>by cases b:f x<;>simp[List.takeWhile,b]
 |x::l,j+1,d,a,c=>by
  cases b:f x with
  |false=>simp[List.takeWhile,b]at a
  |true=>
   rw[List.takeWhile_cons_of_pos b]at a ⊢;have:=rf (l:=l) (j:=j) d (by simpa using a) (by simpa using c);simpa using this
theorem rg(l a n c k w)(q:R1 9 w a n c (os l))(E:l.length=n)(D:n<=1000000):
 Calls prog 158 #[.slice a n c,.string k] w fun e w'=>e= .returned (.int .i64 (g k l:Nat))/\w'=w:=by
 have A:=qZ k l;have t:Hid (∀j,j<=g k l->j<l.length->(sl (l.getD j (strOfNums [])) k=true↔j<g k l)):=fun j v y=>rf (f:=fun x=>sl x k) _ v y;have s:Hid _:=q;generalize g k l=P at*;clear q;go_enter func158,ntmps158;go_wp2_with fail;go_loopw [5] (fun x wr=> ∃j:Nat,x= .int .i64 (j:Nat)/\j<=P/\wr=w) (fun x _=>l.length-(intOf x).toNat)
 case atStart=>exact⟨0,rfl,u6 _,rfl⟩
 case round=>
  obtain⟨j,rfl,z,i⟩:=hrel;obtain rfl:=i.symm;clear i;by_cases p:j<n
  ·have m:(j:Int)< (n:Int):=t7;obtain⟨b,B,rfl,u⟩:=s.out.get p;rw[eh l j t7]at u;have h:=t.out j z t7;have o:Hid (sl (l.getD j (strOfNums [])) k=Op.bytesLess (l.getD j (strOfNums [])).toList k.toList):=rfl;generalize l.getD j (strOfNums [])=x at*;cases r:Op.bytesLess x.toList k.toList with
   |true=>
    have d:=h.1 (by rw[o.out];exact r);clear h;go_wp2_with fail;go_roundw
    case rel=>exact⟨j+1,by go_num,t7,trivial⟩
    case measure=>simp[intOf];omega
   |false=>
    have d:Hid (P=j):=by
     show P=j;have:¬j<P:=fun C=>by have:=h.2 C;rw[o.out,r]at this;cases this
     omega
    clear h;go_wp2_with fail;go_ret;rw[d.out];exact⟨rfl,rfl⟩
  ·have m:¬(j:Int)< (n:Int):=t7;have d:Hid (P=j):=by show P=j;omega
   go_wp2_with fail;go_ret;rw[d.out];exact⟨rfl,rfl⟩
theorem DZ(a b):sle a b=(Op.bytesLess a.toList b.toList||a.toList==b.toList):=by
 unfold sle;cases c:Op.bytesLess a.toList b.toList with
 |true=>rw[show sl b a=false from by cases f:sl b a with|false=>rfl|true=>exact absurd (iq (a:=a) c f) (by rw[lO];decide)];rfl
 |false=>
  cases d:sl b a with
  |false=>rw[pX c d];simp
  |true=>
   cases e:(a.toList==b.toList)with
   |false=>rfl
   |true=>
    have:sl b a=Op.bytesLess b.toList b.toList:=by unfold sl;rw[beq_iff_eq.1 e]
    rw[pW,d]at this;cases this
theorem rh(l a n c k w)(p:R1 9 w a n c (os l))(D:l.length=n)(C:n<=1000000):
 Calls prog 157 #[.slice a n c,.string k] w fun e w'=>e= .returned (.int .i64 (iD k l:Nat))/\w'=w:=by
 have z:=vZ k l;have s:Hid (∀j,j<=iD k l->j<l.length->(sle (l.getD j (strOfNums [])) k=true↔j<iD k l)):=fun j u v=>rf (f:=fun x=>sle x k) _ u v;have r:Hid _:=p;generalize iD k l=P at*;clear p;go_enter func157,ntmps157;go_wp2_with fail;go_loopw [5] (fun x wr=> ∃j:Nat,x= .int .i64 (j:Nat)/\j<=P/\wr=w) (fun x _=>l.length-(intOf x).toNat)
 case atStart=>exact⟨0,rfl,u6 _,rfl⟩
 case round=>
  obtain⟨j,rfl,y,h⟩:=hrel;obtain rfl:=h.symm;clear h;by_cases o:j<n
  ·have i:(j:Int)< (n:Int):=t7;obtain⟨b,A,rfl,t⟩:=r.out.get o;rw[eh l j t7]at t;have g:=s.out j y t7;have m:Hid (sle (l.getD j (strOfNums [])) k=(Op.bytesLess (l.getD j (strOfNums [])).toList k.toList||(l.getD j (strOfNums [])).toList==k.toList)):=DZ _ _;generalize l.getD j (strOfNums [])=x at*;cases q:(Op.bytesLess x.toList k.toList||x.toList==k.toList)with
   |true=>
    have d:=g.1 (by rw[m.out,q]);clear g;go_wp2_with fail;go_roundw
    case rel=>exact⟨j+1,by go_num,t7,trivial⟩
    case measure=>simp[intOf];omega
   |false=>
    have d:Hid (P=j):=by
     show P=j;have:¬j<P:=fun B=>by have:=g.2 B;rw[m.out,q]at this;cases this
     omega
    clear g;go_wp2_with fail;go_ret;rw[d.out];exact⟨rfl,rfl⟩
  ·have i:¬(j:Int)< (n:Int):=t7;have d:Hid (P=j):=by show P=j;omega
   go_wp2_with fail;go_ret;rw[d.out];exact⟨rfl,rfl⟩
theorem kK(a b):lSz (a++b)=lSz a+lSz b:=by simp[lSz]
theorem gz(e b):lSz (e::b)=eSz e+lSz b:=by simp[lSz]
def aH(ss:List ByteArray):Nat:=(ss.map gSz).sum
theorem iE(a b):aH (a++b)=aH a+aH b:=by simp[aH]
theorem fW(e b):aH (e::b)=gSz e+aH b:=by simp[aH]
theorem dm(a):nSz a=4+aH a:=rfl
theorem mv:∀{a b:List En},a.Sublist b->lSz a<=lSz b
 |_,_,.slnil=>t1
 |_,_,.cons x c=>by rw[gz];have:=mv c;omega
 |_,_,.cons_cons x c=>by rw[gz,gz];have:=mv c;omega
theorem om:∀{a b:List ByteArray},a.Sublist b->aH a<=aH b
 |_,_,.slnil=>t1
 |_,_,.cons x c=>by rw[fW];have:=om c;omega
 |_,_,.cons_cons x c=>by rw[fW,fW];have:=om c;omega
theorem D4{a b}(c:a.Sublist b):nSz a<=nSz b:=by rw[dm,dm];have:=om c;omega
def eOk(e:En):Prop:=1<=e.1.size/\e.1.size<=40/\e.2.size<=70
def eQ(s:ByteArray):Prop:=1<=s.size/\s.size<=40
theorem dA{id}{es:List En}:wf 0 (.leaf id es)↔es≠[]/\(∀e∈es,eOk e)/\lSz es<=240:=by rw[wf];rfl
theorem D8{L M}(a:kds L=kds M):L=M:=by rw[<-ct L,a,ct]
theorem bq{n id L}:wf (n+1) (.node id (kds L))↔L≠[]/\(∀x∈L,wf n x.2)/\(∀s∈sgs L,eQ s)/\nSz (sgs L)<=240:=by
 rw[wf];constructor
 ·rintro⟨M,a,b⟩;obtain rfl:=D8 a;exact b
 ·intro a;exact⟨L,rfl,a⟩
theorem aO{n t}(a:wf n t):(∃id es,n=0/\t= .leaf id es)\/∃id L m,n=m+1/\t= .node id (kds L):=by
 cases n with
 |zero=>cases t with
  |leaf id es=>exact u5 ⟨_,_,rfl,rfl⟩
  |_=>simp[wf]at a
 |succ n=>cases t with
  |node id ks=>
   rw[wf]at a;obtain⟨L,rfl,_⟩:=a;exact u4 ⟨_,_,_,rfl,rfl⟩
  |_=>simp[wf]at a
theorem D9{f:Type}(l:List f){a b}(g:a<=b):(l.take a++l.drop b).Sublist l:=by
 have d:=z8 a l;have e:(l.drop b).Sublist (l.drop a):=by
  rw[show b=a+(b-a)by omega,<-wP];exact List.drop_sublist _ _
 have c:=List.Sublist.append (List.Sublist.refl (l.take a)) e;rw[d]at c;exact c
theorem Ea{k v es e}(a:e∈fp k v es):e=(k,v)\/e∈es:=by
 unfold fp at a;simp only[wE,wA]at a;rcases a with a|a|a
 ·exact u4 (List.mem_of_mem_take a)
 ·exact u5 a
 ·exact u4 (List.mem_of_mem_drop a)
theorem wj(k v es):lSz (fp k v es)<=lSz es+eSz (k,v):=by
 unfold fp;have b:∀p q:Nat,p<=q->lSz (es.take p++(k,v)::es.drop q)<=lSz es+eSz (k,v):=fun p q a=>by
  have:=mv (D9 es a);rw[kK]at this;rw[kK,gz];omega
 exact b _ _ (by split<;>omega)
theorem Eb(k v es):fp k v es≠[]:=by unfold fp;simp
theorem wl:∀(es:List En)(a:Nat),a<=240->a+lSz (es.take (ctE a es))<=240
 |[],a,b=>by simpa [lSz]using b
 |e::es,a,b=>by
  rw[ctE];split
  ·rename_i c;have:=wl es (a+eSz e) c;rw[Nat.add_comm 1,A5,gz];omega
  ·simpa [lSz]using b
theorem ri:∀(es:List En)(a:Nat),240<a+lSz es->a<=240->ctE a es<es.length/\240<a+lSz (es.take (ctE a es))+eSz (es.getD (ctE a es) en0)
 |[],a,b,c=>by simp[lSz]at b;omega
 |e::es,a,b,c=>by
  rw[gz]at b;rw[ctE];split
  ·rename_i d;obtain⟨f,g⟩:=ri es (a+eSz e) t7 d;rw[Nat.add_comm 1];refine⟨by simpa using f,?_⟩;rw[A5,gz];simp only[A6];omega
  ·simp[lSz];omega
theorem bO{b:Type}{l:List b}{i d}(a:i<l.length):l.getD i d∈l:=by
 rw[x3,wy a];exact yb a
theorem mw{e}(a:eOk e):eSz e<=112:=by have:=a.2;unfold eSz;omega
def wfR(n:Nat)(r:Tr×Option Kd):Prop:=wf n r.1/\∀x,r.2=some x->wf n x.2/\eQ x.1
theorem Ec{es}(g:es≠[])(a:∀e∈es,eOk e)(i:lSz es<=352):wfR 0 (ctL es):=by
 unfold ctL;split
 ·rename_i m;have j:=wl es 0 t7;obtain⟨h,f⟩:=ri es 0 t7 t7;have c:=a _ (bO (d:=en0) h);have l:=mw c;have k:lSz (es.take (ctE 0 es))+lSz (es.drop (ctE 0 es))=lSz es:=by rw[<-kK,z8]
  refine⟨dA.2 ⟨?_,fun e b=>a e (List.mem_of_mem_take b),t7⟩,?_⟩
  ·intro e;rw[e]at f;simp only[lSz,v6,List.sum_nil]at f;omega
  ·rintro x hx;cases hx;refine⟨dA.2 ⟨?_,fun e b=>a e (List.mem_of_mem_drop b),t7⟩,c.1,c.2.1⟩;intro e;have:=B8 List.length e;simp at this;omega
 ·exact⟨dA.2 ⟨g,a,t7⟩,fun x hx=>by cases hx⟩
theorem wm:∀(b:List ByteArray)(a:Nat),a<=240->a+aH (b.take (ctS a b))<=240
 |[],a,c=>by simpa [aH]using c
 |s::b,a,c=>by
  rw[ctS];split
  ·rename_i d;have:=wm b (a+gSz s) d.2;rw[Nat.add_comm 1,A5,fW];omega
  ·simpa [aH]using c
theorem oo:∀(b:List ByteArray)(a:Nat),2<=b.length->a<=240->ctS a b+2<=b.length/\(ctS a b+2=b.length\/240<a+aH (b.take (ctS a b))+gSz (b.getD (ctS a b) (strOfNums [])))
 |[],a,d,_=>by simp at d
 |s::b,a,d,g=>by
  rw[ctS];split
  ·rename_i c;obtain⟨h,i⟩:=oo b (a+gSz s) c.1 c.2;rw[Nat.add_comm 1];refine⟨by simp;omega,?_⟩;rw[A5,fW];simp only[A6,wQ];omega
  ·rename_i c;refine⟨by simpa using d,?_⟩;simp only[List.take_zero,List.getD_cons_zero,aH,v6,List.sum_nil,wQ];simp at d;by_cases e:2<=b.length
   ·have:¬(a+gSz s<=240):=fun f=>c ⟨e,f⟩;omega
   ·omega
theorem kL{s}(a:eQ s):gSz s<=45:=by have:=a.2;unfold gSz;omega
theorem oq:∀(a:List ByteArray),(∀s∈a,eQ s)->aH a<=45*a.length
 |[],_=>t1
 |s::a,b=>by
  have:=oq a (fun x hx=>b x (by simp[hx]));have:=kL (b s uB);rw[fW];simp;omega
theorem wn(L m):sgs (L.take (m+1))=(sgs L).take m:=by cases L<;>simp[sgs,List.map_take]
theorem wo(L m):sgs (L.drop m)=(sgs L).drop m:=by simp[sgs,List.map_drop,List.tail_drop]
theorem gC(L):(sgs L).length=L.length-1:=by simp[sgs]
theorem mx(L m):(sgs L).getD m (strOfNums [])=(L.getD (m+1) t0).1:=by
 simp only[sgs,x3,y2,List.getElem?_tail];cases L[m+1]?<;>rfl
theorem Ed{n L}(d:L≠[])(c:∀x∈L,wf n x.2)(b:∀s∈sgs L,eQ s)(f:nSz (sgs L)<=285):wfR (n+1) (ctN L):=by
 unfold ctN;split
 ·rename_i i;have l:=oq (sgs L) b;rw[dm]at i f;have g:6<=(sgs L).length:=t7;have o:=wm (sgs L) 4 t7;obtain⟨q,p⟩:=oo (sgs L) 4 t7 t7;generalize r:ctS 4 (sgs L)=m at*;have j:=gC L;have k:aH ((sgs L).take m)+(gSz ((sgs L).getD m (strOfNums []))+aH ((sgs L).drop (m+1)))=aH (sgs L):=by
   rw[<-fW,<-iE];congr 1;rw[x3,wy t7,Option.getD_some,List.getElem_cons_drop,z8]
  have h:=oq ((sgs L).drop (m+1)) (fun s a=>b s (List.mem_of_mem_drop a));rw[vk]at h;refine⟨bq.2 ⟨?_,fun x hx=>c x (List.mem_of_mem_take hx),fun s a=>b s ?_,?_⟩,?_⟩
  ·intro e;have:=B8 List.length e;rw[wv,zP]at this;omega
  ·rw[wn]at a;exact List.mem_of_mem_take a
  ·rw[wn,dm];omega
  ·rintro x hx;cases hx;refine⟨bq.2 ⟨?_,fun x hx=>c x (List.mem_of_mem_drop hx),fun s a=>b s ?_,?_⟩,?_⟩
   ·intro e;have:=B8 List.length e;simp at this;omega
   ·rw[wo]at a;exact List.mem_of_mem_drop a
   ·rw[wo,dm];omega
   ·show eQ (L.getD (m+1) t0).1;rw[<-mx];exact b _ (bO t7)
 ·rename_i i;exact⟨bq.2 ⟨d,c,b,t7⟩,fun x hx=>by cases hx⟩
theorem my{b:Type}{l p}(d:b)(a:p<l.length):l.take p++l.getD p d::l.drop (p+1)=l:=by
 rw[x3,wy a,Option.getD_some,List.getElem_cons_drop,z8]
theorem Ee(x L):sgs (x::L)=L.map (·.1):=rfl
theorem rj{L:List Kd}{p}(b:p<L.length)(t)(o:List Kd):sgs (L.take p++((L.getD p t0).1,t)::(o++L.drop (p+1)))=(sgs L).take p++(o.map (·.1)++(sgs L).drop p):=by
 cases p with
 |zero=>
  cases L with
  |nil=>simp at b
  |cons x L=>simp[sgs]
 |succ p=>
  cases L with
  |nil=>simp at b
  |cons x L=>
   have a:p<L.length:=by simpa using b
   simp only[A5,y4,Ee,A6,List.drop_succ_cons]
   conv=>rhs;rw[<-z8 (p+1) (L.map (·.1))]
   simp only[zz,vo,AO,A0];rw[z8,xd (by simpa using a)];simp[List.getD_eq_getElem?_getD,List.getElem?_eq_getElem a]
theorem jD{k L}(a:L≠[]):kid k L<L.length:=by
 have:=vZ k (sgs L);rw[gC]at this;have:=List.length_pos_iff.2 a;unfold kid;omega
theorem rl{k v}(l:eOk (k,v)):∀{n:Nat}{t:Tr},wf n t->wfR n (dh k v n t):=by
 intro n;induction n with
 |zero=>
  intro t i;rcases aO i with⟨id,es,_,rfl⟩|⟨id,L,m,e,_⟩
  ·obtain⟨j,b,c⟩:=dA.1 i;rw[dh]
   ·exact Ec (Eb _ _ _) (fun e f=>by rcases Ea f with rfl|f;exact l;exact b e f) (by have:=wj k v es;have:=mw l;omega)
  ·omega
 |succ n ih=>
  intro t i;rcases aO i with⟨id,es,e,_⟩|⟨id,L,m,e,rfl⟩
  ·omega
  ·obtain⟨j,b,c,o⟩:=bq.1 i;have g:=jD (k:=k) j;obtain⟨u,h⟩:=ih (b _ (bO (d:=t0) g));rw[dh];simp only[ct];generalize dh k v n (L.getD (kid k L) t0).2=r at*;generalize kid k L=p at*;apply Ed uB
   ·intro x hx;simp only[wE,wA,Option.mem_toList]at hx;rcases hx with hx|rfl|hx|hx
    ·exact b x (List.mem_of_mem_take hx)
    ·exact u
    ·exact(h x hx).1
    ·exact b x (List.mem_of_mem_drop hx)
   ·rw[rj g];intro s a;simp only[wE,xC,Option.mem_toList]at a;rcases a with a|⟨x,hx,rfl⟩|a
    ·exact c s (List.mem_of_mem_take a)
    ·exact(h x hx).2
    ·exact c s (List.mem_of_mem_drop a)
   ·rw[rj g,dm,iE,iE];have:aH ((sgs L).take p)+aH ((sgs L).drop p)=aH (sgs L):=by rw[<-iE,z8]
    rw[dm]at o;have:aH (r.2.toList.map (·.1))<=45:=by
     cases q:r.2 with
     |none=>simp[aH]
     |some x=>
      have:=kL (h x q).2;simpa [aH]using this
    omega
theorem jE{a b:Type}(f:a->b):∀(l:List a)(i:Nat),(l.eraseIdx i).map f=(l.map f).eraseIdx i
 |[],_=>rfl
 |x::l,0=>rfl
 |x::l,i+1=>by simp only[List.eraseIdx_cons_succ,vo];rw[jE f l i]
theorem wq(L q):sgs (L.eraseIdx (q+1))=(sgs L).eraseIdx q:=by
 cases L with
 |nil=>simp[sgs]
 |cons x L=>simp only[sgs,List.eraseIdx_cons_succ,List.tail_cons];exact jE _ L q
theorem Ef(L):sgs (L.eraseIdx 0)=(sgs L).tail:=by cases L<;>simp[sgs]
theorem rm{a:Type}(d):∀(l:List a)(i:Nat),l.set i (l.getD i d)=l
 |[],_=>rfl
 |x::l,0=>rfl
 |x::l,i+1=>by simp only[A6,A3];rw[rm d l i]
theorem ro(L p t):sgs (L.set p ((L.getD p t0).1,t))=sgs L:=by
 have b:(L.set p ((L.getD p t0).1,t)).map (·.1)=L.map (·.1):=by
  rw[List.map_set];show(L.map (·.1)).set p (L.getD p t0).1= _;have:(L.getD p t0).1=(L.map (·.1)).getD p (strOfNums []):=by
   simp only[x3,y2];cases L[p]?<;>rfl
  rw[this,rm]
 have a:∀M:List Kd,sgs M=(M.map (·.1)).tail:=fun M=>by simp[sgs,List.map_tail]
 rw[a,a,b]
theorem jF{a:Type}(l:List a)(i):(l.eraseIdx i).Sublist l:=List.eraseIdx_sublist l i
theorem mz{c:Type}{l:List c}{i a x}(b:x∈l.set i a):x=a\/x∈l:=by
 rcases List.mem_or_eq_of_mem_set b with b|b
 ·exact u4 b
 ·exact u5 b
theorem wt{b:Type}:∀(l:List b)(i:Nat)(a:b),(l.set i a).eraseIdx i=l.eraseIdx i
 |[],_,_=>rfl
 |x::l,0,a=>rfl
 |x::l,i+1,a=>by simp only[A3,List.eraseIdx_cons_succ];rw[wt l i a]
theorem wu{L s M}(a:L≠[])(b:M≠[]):sgs (L++kx s M)=sgs L++s::sgs M:=by
 cases L with
 |nil=>exact absurd rfl a
 |cons x L=>cases M with
  |nil=>exact absurd rfl b
  |cons y M=>simp[sgs,kx]
theorem ww{s}:∀{M:List Kd}{x:Kd},x∈kx s M->∃y∈M,x.2=y.2
 |[],x,a=>by simp[kx]at a
 |y::M,x,a=>by
  rw[kx,wA]at a;rcases a with rfl|a
  ·exact⟨y,uB,rfl⟩
  ·exact⟨x,by simp[a],rfl⟩
theorem Eg{n a b s}(j:wf n a)(g:wf n b)(q:eQ s)(h:¬240<szT (dL a s b)):wf n (dL a s b):=by
 rcases aO j with⟨id,es,rfl,rfl⟩|⟨id,L,m,rfl,rfl⟩
 ·rcases aO g with⟨d,l,_,rfl⟩|⟨d,L,m,e,_⟩
  ·obtain⟨f,i,o⟩:=dA.1 j;obtain⟨k0,k,p⟩:=dA.1 g;rw[dL]at h ⊢;refine dA.2 ⟨by simp[f],fun e c=> ?_,by rw[szT]at h;omega⟩;rcases wE.1 c with c|c
   ·exact i e c
   ·exact k e c
  ·omega
 ·rcases aO g with⟨d,l,e,_⟩|⟨d,M,v,e,rfl⟩
  ·omega
  ·obtain⟨f,i,o,t⟩:=bq.1 j;obtain⟨k0,k,p,u⟩:=bq.1 g;rw[dL,ct,ct]at h ⊢;rw[szT,ct]at h;refine bq.2 ⟨by simp[f],fun x hx=> ?_,?_,t7⟩
   ·rcases wE.1 hx with hx|hx
    ·exact i x hx
    ·obtain⟨y,r,e⟩:=ww hx;rw[e];exact k y r
   ·rw[wu f k0];intro x hx;rcases wE.1 hx with hx|hx
    ·exact o x hx
    ·rcases wA.1 hx with rfl|hx
     ·exact q
     ·exact p x hx
structure KsF(n:Nat)(L:List Kd):Prop where
 each:∀x∈L,wf n x.2
 sgn:∀s∈sgs L,eQ s
 fit:nSz (sgs L)<=240
theorem KsF.sub{n L M}(d:KsF n L)(b:∀x∈M,wf n x.2)(a:(sgs M).Sublist (sgs L)):KsF n M:=⟨b,fun s c=>d.sgn s (a.subset c),by have:=D4 a;have:=d.fit;omega⟩
theorem Eh{n L}(f:KsF n L){p}(o:p<L.length){d}(l:bare d=false->wf n d):KsF n (fE (L.set p ((L.getD p t0).1,d)) p):=by
 have k:((L.set p ((L.getD p t0).1,d)).getD p t0).2=d:=by simp[List.getD_eq_getElem?_getD,o]
 have h:=ro L p d;unfold fE;simp only[k,A1];cases i:bare d with
 |true=>
  rw[BC rfl,wt];refine f.sub (fun x hx=>f.each x ((jF _ _).subset hx)) ?_;cases p with
  |zero=>rw[Ef];exact List.tail_sublist _
  |succ p=>rw[wq];exact jF _ _
 |false=>
  rw[BX uv];have a:=f.sub (fun x hx=>by
   rcases mz hx with rfl|hx
   ·exact l i
   ·exact f.each x hx) (by rw[h];exact List.Sublist.refl _)
  have s:(L.set p ((L.getD p t0).1,d)).length=L.length:=by simp
  generalize L.set p ((L.getD p t0).1,d)=M at*;split
  ·exact a
  ·rename_i r;have q:max p 1<M.length:=t7;have c:max p 1-1<M.length:=t7;have b:max p 1=(max p 1-1)+1:=t7;have e:eQ (M.getD (max p 1) t0).1:=by
    rw[b,<-mx];exact a.sgn _ (bO (by rw[gC];omega))
   split
   ·exact a
   ·rename_i g;have m:=Eg (a.each _ (bO (d:=t0) c)) (a.each _ (bO (d:=t0) q)) e g;refine a.sub (fun x hx=> ?_) ?_
    ·rcases mz ((jF _ _).subset hx)with rfl|hx
     ·exact m
     ·exact a.each x hx
    ·generalize dL _ _ _=j;rw[b,wq,<-b,ro];exact jF _ _
theorem wD(k es):(ra k es).Sublist es:=jF _ _
theorem kM{k}:∀{n:Nat}{t:Tr},wf n t->bare (bN k n t)=false->wf n (bN k n t):=by
 intro n;induction n with
 |zero=>
  intro t f a;rcases aO f with⟨id,es,_,rfl⟩|⟨id,L,m,e,_⟩
  ·obtain⟨g,b,h⟩:=dA.1 f;rw[bN]at a ⊢;refine dA.2 ⟨(fun e=>by rw[bare,e]at a;cases a),fun e l=>b e ((wD k es).subset l),by have:=mv (wD k es);omega⟩
  ·omega
 |succ n ih=>
  intro t f a;rcases aO f with⟨id,es,e,_⟩|⟨id,L,m,e,rfl⟩
  ·omega
  ·obtain⟨g,b,h,j⟩:=bq.1 f;have i:=jD (k:=k) g;have c:=Eh ⟨b,h,j⟩ i (ih (b _ (bO (d:=t0) i)));rw[bN]at a ⊢;simp only[ct]at a ⊢;rw[bare,ct]at a;exact bq.2 ⟨(fun e=>by rw[e]at a;cases a),c.each,c.sgn,c.fit⟩
theorem rp(t):dM 0 t=(0,t):=by cases t<;>rfl
theorem Ei:∀{n:Nat}{t:Tr},wf n t->wf (dM n t).1 (dM n t).2:=by
 intro n;induction n with
 |zero=>intro t a;rw[rp];exact a
 |succ n ih=>
  intro t a;rcases aO a with⟨id,es,e,_⟩|⟨id,L,m,e,rfl⟩
  ·omega
  ·rw[dM,ct];split
   ·exact ih ((bq.1 a).2.1 _ uB)
   ·exact a
theorem wF:∀(n:Nat)(t:Tr),(dM n t).1<=n
 |0,t=>by rw[rp];exact t1
 |n+1,.node id ks=>by
  rw[dM];split
  ·have:=wF n;exact Nat.le_succ_of_le (this _)
  ·exact t1
 |n+1,.leaf _ _=>t1
 |n+1,.nil=>t1
 |n+1,.cons _ _ _=>t1
def wfO:OTr->Prop
 |none=>True
 |some x=>wf x.1 x.2
def dpO:OTr->Nat
 |none=>0
 |some x=>x.1
theorem wG{k v d}(a:eOk (k,v)):∀{o:OTr},wfO o->wfO (chg k v d o).1/\dpO (chg k v d o).1<=dpO o+1
 |none,_=>by
  rw[chg];cases d with
  |true=>exact⟨trivial,by simp[dpO]⟩
  |false=>
   refine⟨(dA (id:=0)).2 ⟨uB,fun e f=> ?_,?_⟩,by simp[dpO]⟩
   ·simp at f;subst f;exact a
   ·have:=mw a;simp[lSz];omega
 |some (n,t),i=>by
  rw[chg];cases d with
  |true=>
   simp only[if_true];split
   ·cases l:bare (bN k n t)with
    |true=>exact⟨trivial,by simp[dpO]⟩
    |false=>exact⟨Ei (kM i l),by have:=wF n (bN k n t);simp[dpO];omega⟩
   ·exact⟨i,by simp[dpO]⟩
  |false=>
   have b:=rl a i;generalize dh k v n t=r at*;obtain⟨u,o⟩:=r;cases o with
   |none=>exact⟨b.1,by simp[dpO]⟩
   |some x=>
    obtain⟨j,c⟩:=b.2 x rfl;refine⟨(bq (id:=0)).2 ⟨uB,fun y h=> ?_,fun s g=> ?_,?_⟩,by simp[dpO]⟩
    ·simp at h;rcases h with rfl|rfl;exact b.1;exact j
    ·simp[sgs]at g;subst g;exact c
    ·have:=kL c;simp[nSz,sgs];omega
section
structure RNd(w:World)(v:NdV)(K:NdK):Prop where
 keys:R1 9 w v.ka K.keys.length v.kc (os K.keys)
 vals:R1 9 w v.va K.vals.length v.vc (os K.vals)
 kids:R1 3 w v.da K.kids.length v.dc (on K.kids)
 signs:R1 9 w v.sa K.signs.length v.sc (os K.signs)
theorem RNd.keep{w w' v K}(b:RNd w v K)(a:KeepT 9 w w')(c:KeepT 3 w w'):RNd w' v K:=⟨b.keys.keep a,b.vals.keep a,b.kids.keep c,b.signs.keep a⟩
theorem RNd.below{w w' v K}(b:RNd w v K)(a:Below w.1.size w w'):RNd w' v K:=b.keep (aV a) (aV a)
theorem ONd.rnd{B w v K}(a:ONd B w v K):RNd w v K:=⟨a.keys.r1 (dR _),a.vals.r1 (dR _),a.kids.r1 (fw _),a.signs.r1 (dR _)⟩
def ucs(na:Option Addr)(n nc:Nat)(rt:Int)(rest:List Value):List Value:= .slice na n nc:: .int .i64 rt::rest
structure USt(B0 g:Nat)(rest:List Value)(rt:Int)(w:World)(ns:List NdK)(nv:Nat->NdV)(na:Option Addr)(nc:Nat):Prop where
 blk:Blk w 116 g (ucs na ns.length nc rt rest)
 nodes:ORow 176 6 B0 w na ns.length nc (cd nv ns)
 each:∀i,i<ns.length->RNd w (nv i) (ns.getD i nd0)
 gB:B0<=w.1.size
variable {B0 g:Nat} {rest:List Value} {rt:Int} {w w':World} {ns:List NdK} {nv:Nat->NdV} {na:Option Addr} {nc:Nat}
theorem TSt.ust{sb N seen tall bad}(a:TSt B0 g sb N rt w ns nv na nc seen tall bad):USt B0 g [.slice (some ⟨sb,0,none⟩) N N,.int .i64 tall,.bool bad] rt w ns nv na nc:=⟨a.blk,a.nodes,fun i b=>(a.each i b).rnd,a.gB⟩
theorem USt.below(b:USt B0 g rest rt w ns nv na nc)(a:Below w.1.size w w'):USt B0 g rest rt w' ns nv na nc:=
 ⟨b.blk.below a,b.nodes.below a,fun i c=>(b.each i c).below a,u9 b.gB a.size⟩
def UZ(g:Nat)(na:Option Addr)(k:Nat):Prop:=k=g\/na=some ⟨k,0,none⟩
abbrev UFr(g:Nat)(na:Option Addr)(w w':World):Prop:=OnlyS (UZ g na) w w'
theorem USt.zty(d:USt B0 g rest rt w ns nv na nc){k}(b:UZ g na k):∃cs t,(t=116\/t=176)/\w.heap[k]?=some (.cells cs t (0,0)):=by
 rcases b with rfl|rfl
 ·exact⟨_,_,u5 rfl,d.blk⟩
 ·obtain⟨_,c,a⟩:=d.nodes.blk;exact⟨_,_,u4 rfl,a⟩
theorem USt.keepT(j:USt B0 g rest rt w ns nv na nc)(f:UFr g na w w'){t}(d:t≠116)(e:t≠176):KeepT t w w':=
 ⟨f.size,fun k cs fr b=>by
  rw[f.block k (vR.1 b).1 (fun h=> ?_)]
  ·exact b
  ·obtain⟨i,l,a,c⟩:=j.zty h;rw[b]at c;cases c;rcases a with a|a
   ·exact d a
   ·exact e a⟩
theorem UFr.step{b w1 c}(f:UFr g na w w1)(d:UFr g b w1 c)(e:b=na\/∃k,b=some ⟨k,0,none⟩/\w.1.size<=k):UFr g na w c:=
 f.transN d (fun k h a=>by
  rcases a with a|a
  ·exact u5 a
  ·rcases e with rfl|⟨k1,rfl,hk1⟩
   ·exact u4 a
   ·cases a;omega)
theorem ot(nv ns n):IsRow 6 (cd nv ns) n:=⟨fun _ _=>rfl,fun i _=>eo _ _⟩
theorem USt.cells(h:USt B0 g rest rt w ns nv na nc){p K}(f:ns[p]?=some K):
 ∃b,na=some ⟨b,0,none⟩/\(∀j v,(ndc (nv p) K)[j]?=some v->w.cell? ⟨b,p*6+j,none⟩=some v)/\RNd w (nv p) K/\p<ns.length:=by
 have a:=(wb.1 f).1;have R:=h.nodes.reads (ot nv ns _);have d:ns.getD p nd0=K:=by rw[List.getD,f];rfl
 rcases h.nodes.2 with⟨_,m⟩|⟨b,k,l,e,_⟩
 ·omega
 ·simp only[DC]at e;have c:=e.1;rw[c]at R;refine⟨b,c,fun j v i=>by have:=R.cells p a j v (by unfold cd;rw[d];exact i);rwa [wg]at this,?_,a⟩;have:=h.each p a;rw[d]at this;exact this
theorem USt.push{a}(q:USt B0 g rest rt w ns nv na nc){v K}(o:RNd w v K){d c}(u:ORow 176 6 B0 a (some ⟨d,0,none⟩) (ns.length+1) c (cH (cd nv ns) ns.length (ndc v K)))(r:Below B0 w a)(s:(w.alloc (.cells (ndc v K).toArray 176)).grownBy a (Value.slice na ns.length nc).ownBlock):
 USt B0 g rest rt (a.setCell ⟨g,0,none⟩ (.slice (some ⟨d,0,none⟩) (ns.length+1) c)) (ns++[K]) (eA nv ns.length v) (some ⟨d,0,none⟩) c:=by
 have p:=bAl w (.cells (ndc v K).toArray 176);have h:∀t,176≠t->KeepT t w a:=fun t k=>(aV p).trans (bD (bQ q.nodes p) s k);have n:Blk a 116 g _:=q.blk.keepT (h _ uv);have m:=ax a g 0 (.slice (some ⟨d,0,none⟩) (ns.length+1) c);have b:∀t,116≠t->KeepT t a (a.setCell ⟨g,0,none⟩ (.slice (some ⟨d,0,none⟩) (ns.length+1) c)):=fun t k=>aw m n k;refine⟨?_,?_,fun i j=> ?_,u9 q.gB (u9 r.size m.size)⟩
 ·rw[u7];exact n.set 0 (.slice (some ⟨d,0,none⟩) (ns.length+1) c)
 ·have x:=cw u (b _ uv);rw[u7];refine ORow.congr (f:=cH (cd nv ns) ns.length (ndc v K)) x (fun i j=> ?_);have l:i<ns.length+1:=j;by_cases e:i=ns.length
  ·subst e;rw[iJ];unfold cd;rw[jA];simp
  ·rw[jQ _ _ t7];unfold cd;rw[jB _ _ t7];simp[List.getD,List.getElem?_append_left (show i<ns.length by omega)]
 ·rw[u7]at j;have l:i<ns.length+1:=j;by_cases e:i=ns.length
  ·subst e;rw[jA];have:(ns++[K]).getD ns.length nd0=K:=by simp
   rw[this];exact(o.keep (h _ uv) (h _ uv)).keep (b _ uv) (b _ uv)
  ·rw[jB _ _ t7];have:(ns++[K]).getD i nd0=ns.getD i nd0:=by simp[List.getD,List.getElem?_append_left (show i<ns.length by omega)]
   rw[this];exact((q.each i t7).keep (h _ uv) (h _ uv)).keep (b _ uv) (b _ uv)
theorem UFr.push{c K v u}(i:USt B0 g rest rt w ns nv na nc)(f:(w.alloc (.cells (ndc v K).toArray 176)).grownBy c (Value.slice na ns.length nc).ownBlock):UFr g na w (c.setCell ⟨g,0,none⟩ u):=by
 have f1:=(OnlyS.ofBelow (Z:=UZ g na) (bAl _ _)).trans ((OnlyS.ofGrown f).mono (fun k _ a=>by
  rcases i.nodes.2 with⟨b,_⟩|⟨h,d,e,b,_⟩
  ·rw[b]at a;simp[Value.ownBlock]at a
  ·rw[b]at a;simp[Value.ownBlock]at a;simp only[DC]at b;subst a;exact u4 b.1))
 exact f1.trans ((OnlyS.ofB (ax c g 0 u)).mono (fun k _ a=>u5 a))
theorem USt.store(m:USt B0 g rest rt w ns nv na nc){b p}(E:na=some ⟨b,0,none⟩){v K}(o:RNd w v K)(F:p<ns.length){a}(l:w.heap[b]?=some (.cells a 176 (0,0))):
 USt B0 g rest rt (w.setRow b (a.toList.take (p*6)++ndc v K++a.toList.drop (p*6+(ndc v K).length)).toArray) (ns.set p K) (eA nv p v) na nc:=by
 subst E;generalize q:w.setRow b (a.toList.take (p*6)++ndc v K++a.toList.drop (p*6+(ndc v K).length)).toArray=H;obtain⟨k,L,y⟩:(ns.length<=nc/\nc<=maxLen)/\a.size=nc*6/\a.toList.take (ns.length*6)=aK (cd nv ns) ns.length:=by
  rcases m.nodes.2 with⟨c,_⟩|⟨M,z,A,c,N,r,h,n,C,D⟩
  ·cases c
  ·cases c;rw[l]at r;cases r;exact⟨⟨h,n⟩,C,D⟩
 have x:OnlyB b w H:=by rw[<-q];exact du w b _
 have f:∀t,176≠t->KeepT t w H:=fun t G=>cx x l G;refine⟨by rw[A1];exact m.blk.keepT (f _ uv),?_,fun i d=> ?_,u9 m.gB x.size⟩
 ·have hx:(ndc v K).length=6:=rfl;have J:p*6+6<=ns.length*6:=t7;have I:ns.length*6<=a.toList.length:=by have:=Array.length_toList (xs:=a);omega
  have c:(a.toList.take (p*6)++ndc v K++a.toList.drop (p*6+(ndc v K).length)).take (ns.length*6)=aK (cH (cd nv ns) p (ndc v K)) ns.length:=by
   rw[<-th (s:=6) (cd nv ns) (ndc v K) rfl ns.length p F (ot nv ns _),<-y,hx];apply yc;intro j;by_cases u:j<ns.length*6
   ·rw[List.getElem?_take_of_lt u];simp only[List.getElem?_append,u7,wv,List.getElem?_take,List.getElem?_drop,hx];by_cases h:j<p*6
    ·rw[BC t7,BC t7,BC h,BC t7,BC t7,BC h,BC t7]
    ·by_cases n:j<p*6+6
     ·rw[BC t7,BX t7,BC t7,BX t7];congr 1;omega
     ·rw[BX t7,BX t7];have:p*6+6+(j-(min (p*6) a.toList.length+6))=j:=t7;rw[this];have:p*6+6+(j-(min (p*6) (min (ns.length*6) a.toList.length)+6))=j:=t7;rw[this,BC u]
   ·rw[xN (by rw[wv];omega),xN];simp only[u7,wv,vk,hx];omega
  have B:aK (cH (cd nv ns) p (ndc v K)) ns.length=aK (cd (eA nv p v) (ns.set p K)) ns.length:=lI _ (fun i d=>by
   by_cases e:i=p
   ·subst e;have:(ns.set i K).getD i nd0=K:=by simp[List.getD_eq_getElem?_getD,d]
    rw[iJ];unfold cd;rw[this,jA]
   ·have:(ns.set p K).getD i nd0=ns.getD i nd0:=by simp[List.getD_eq_getElem?_getD,List.getElem?_set_ne (Ne.symm e)]
    unfold cd cH eA;rw[this,BX e,BX e])
  rw[A1];refine⟨gU _ (ot _ _ _),u4 ⟨b,nc,(a.toList.take (p*6)++ndc v K++a.toList.drop (p*6+(ndc v K).length)).toArray,rfl,(cE m.nodes b (by simp[rb])).1,?_,k.1,k.2,?_,?_⟩⟩
  ·rw[<-q];exact setRow_heap w b a _ _ _ l
  ·simp only[v7,u7,wv,vk,hx];have:=Array.length_toList (xs:=a);omega
  ·rw[<-B,<-c]
 ·rw[A1]at d;by_cases e:i=p
  ·subst e;have:(ns.set i K).getD i nd0=K:=by simp[List.getD_eq_getElem?_getD,d]
   rw[this];simp only[eA,if_true];exact o.keep (f _ uv) (f _ uv)
  ·have:(ns.set p K).getD i nd0=ns.getD i nd0:=by simp[List.getD_eq_getElem?_getD,List.getElem?_set_ne (Ne.symm e)]
   rw[this];simp only[eA,BX e];exact(m.each i d).keep (f _ uv) (f _ uv)
end
theorem rq(l):(strOfNums l).size=l.length:=B5 l
theorem Ej:∀(n:Nat)(l:List Int)(es:List En),l.length<=n->lfP l=some es->lSz es=l.length/\∀e∈es,eOk e:=by
 intro n;induction n with
 |zero=>
  intro l es i b;rw[jg t7]at b;cases b;exact⟨by simp[lSz];omega,fun e a=>by simp at a⟩
 |succ n ih=>
  intro l es i b;by_cases d:l.length=0
  ·rw[jg d]at b;cases b;exact⟨by simp[lSz];omega,fun e a=>by simp at a⟩
  ·cases c:ee l with
   |false=>rw[iL d c]at b;cases b
   |true=>
    rw[nf c]at b;obtain⟨xs,h,rfl⟩:=xr.1 b;have o:=gI.1 c;have m:(l.drop (fu l)).length=l.length-(2+lfK l+lfV l):=by rw[vk];rfl
    obtain⟨j,k⟩:=ih _ xs t7 h;have f:(cU l).size=lfK l:=by unfold cU;rw[rq,wv,vk];omega
    have g:(fh l).size=lfV l:=by unfold fh;rw[rq,wv,vk];omega
    refine⟨?_,fun e a=> ?_⟩
    ·rw[gz,j];simp only[eSz,f,g];omega
    ·rcases wA.1 a with rfl|a
     ·simp only[eOk,f,g];omega
     ·exact k e a
theorem Ek:∀(n:Nat)(l:List Int)(ls:List (ByteArray×Int)),l.length<=n->lnP l=some ls->aH (ls.map (·.1))=l.length/\∀s∈ls.map (·.1),eQ s:=by
 intro n;induction n with
 |zero=>
  intro l es h b;rw[gZ t7]at b;cases b;exact⟨by simp[aH];omega,fun e a=>by simp at a⟩
 |succ n ih=>
  intro l es h b;by_cases d:l.length=0
  ·rw[gZ d]at b;cases b;exact⟨by simp[aH];omega,fun e a=>by simp at a⟩
  ·cases c:eJ l with
   |false=>rw[ji d c]at b;cases b
   |true=>
    rw[j4 c]at b;obtain⟨xs,g,rfl⟩:=xr.1 b;have m:=gJ.1 c;have k:(l.drop (5+lfK l)).length=l.length-(5+lfK l):=by rw[vk]
    obtain⟨i,j⟩:=ih _ xs t7 g;have f:(cU l).size=lfK l:=by unfold cU;rw[rq,wv,vk];omega
    refine⟨?_,fun e a=> ?_⟩
    ·rw[vo,fW,i];simp only[gSz,f];omega
    ·rcases wA.1 a with rfl|a
     ·simp only[eQ,f];omega
     ·exact j e a
theorem El{l ls}(f:l.length<=240)(a:inP l=some ls):ls≠[]/\nSz (ls.tail.map (·.1))<=240/\∀s∈ls.tail.map (·.1),eQ s:=by
 unfold inP at a;split at a
 ·rename_i e;obtain⟨xs,b,rfl⟩:=xr.1 a;obtain⟨c,d⟩:=Ek _ _ xs t1 b;rw[vk]at c;refine⟨uB,?_,d⟩;rw[List.tail_cons,dm];omega
 ·cases a
def TlP(f:Nat)(s:Int)(st:St)(st':St)(Q:Nat->Prop):Prop:= ∃n:Nat,n<f/\Q n/\st'.tall=s+n/\(0<=st.tall->st'.tall=st.tall)
theorem wH{r f s}(F:0<=s)(j:∀b id t a,r b id=some (t,a)->TlP f s b a (fun n=>wf n t)):∀(ls:List (ByteArray×Int))(b:St)(t:Tr)(a:St),ls≠[]->rdK r ls b=some (t,a)->∃L:List Kd,t=kds L/\L.map (·.1)=ls.map (·.1)/\TlP f s b a (fun n=> ∀x∈L,wf n x.2)
 |[],b,t,a,k,_=>absurd rfl k
 |(g,id)::ls,b,t,a,_,k=>by
  rw[rdK]at k;obtain⟨x,A,B⟩:=w3.1 k;obtain⟨y,d,C⟩:=w3.1 B;cases C;obtain⟨n,E,h,l,i⟩:=j b id x.1 x.2 A;cases ls with
  |nil=>
   rw[rdK]at d;cases d;exact⟨[(g,x.1)],rfl,rfl,n,E,(fun H c=>by simp at c;subst c;exact h),l,i⟩
  |cons q G=>
   obtain⟨L,o,p,m,D,u,v,w⟩:=wH F j (q::G) x.2 y.1 y.2 uB d;have e:=w t7;have:m=n:=t7;subst this;refine⟨(g,x.1)::L,by rw[o];rfl,by simp[p],m,D,fun H c=> ?_,v,fun z=>by rw[e];exact i z⟩;rcases wA.1 c with rfl|c
   ·exact h
   ·exact u H c
theorem wJ{P}(j:∀t,P.ok t=true->(P.bd t).length<=240):∀(f:Nat)(steps:Int)(b:St)(id:Int)(t:Tr)(a:St),0<=steps->rdT P f steps b id=some (t,a)->TlP f steps b a (fun n=>wf n t)
 |0,steps,b,id,t,a,_,c=>by rw[rdT]at c;cases c
 |f+1,steps,b,id,t,a,B,c=>by
  rw[rdT]at c;split at c
  ·rename_i k;have v:=j id (fO.1 k).1;split at c
   ·split at c
    ·rename_i E;obtain⟨es,g,d⟩:=w3.1 c;split at d
     ·cases d
     ·rename_i w;cases d;obtain⟨F,x⟩:=Ej _ _ es t1 g;exact⟨0,t7,dA.2 ⟨fun e=>w (by rw[e];rfl),x,t7⟩,uB,fun C=>by show steps=b.tall;omega⟩
    ·cases c
   ·obtain⟨ls,g,d⟩:=w3.1 c;obtain⟨y,r,u⟩:=xr.1 d;cases u;obtain⟨l,z,A⟩:=El v g;obtain⟨L,q,h,n,D,m,o,p⟩:=wH (s:=steps+1) t7 (fun b id t a=>wJ j f (steps+1) b id t a t7) ls _ y.1 y.2 l r;have i:sgs L=ls.tail.map (·.1):=by unfold sgs;rw[List.map_tail,h,List.map_tail]
    refine⟨n+1,t7,?_,by rw[o];omega,p⟩;show wf (n+1) (.node id y.1);rw[q];exact bq.2 ⟨(fun e=>by subst e;apply l;simpa using h),m,by rw[i];exact A,by rw[i];exact z⟩
  ·cases c
