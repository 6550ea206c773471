import Derived.Test.YtglbanolhhjjiaaGreatDoorFo21
namespace Go.Proofs.YtglbanolhhjjiaaGreatDoor
open Go.Proofs.Tryz
open Go.RowKit
set_option linter.unusedVariables false
set_option maxRecDepth 100000
set_option maxHeartbeats 32000000
section
abbrev Pl:=ByteArray×Int
def ndL(id:Int)(es:List En):NdK:=⟨id,true,es.map (·.1),es.map (·.2),[],[]⟩
def ndI(id:Int)(us:List Pl):NdK:=⟨id,false,[],[],us.map (·.2),us.tail.map (·.1)⟩
def SRep(ns:List NdK):Tr->List Nat->List Pl->Prop
 | .leaf id es,P,vs=> ∃p:Nat,P=[p]/\vs=[(strOfNums [],(p:Int))]/\ns[p]?=some (ndL id es)
 | .node id ks,P,vs=> ∃(p:Nat)(us:List Pl)(G:List Nat),P=p::G/\vs=[(strOfNums [],(p:Int))]/\ns[p]?=some (ndI id us)/\SRep ns ks G us
 | .nil,P,vs=>P=[]/\vs=[]
 | .cons s t ks,P,vs=> ∃(v:Int)(us:List Pl)(G1 G2:List Nat),P=G1++G2/\vs=(s,v)::us/\SRep ns t G1 [(strOfNums [],v)]/\SRep ns ks G2 us
variable {ns ms:List NdK}
theorem SRep.keep:∀{t:Tr}{P:List Nat}{b:List Pl},SRep ns t P b->(∀p∈P,ms[p]?=ns[p]?)->SRep ms t P b
 | .leaf id es,P,b,c,a=>by
  rw[SRep]at c ⊢;obtain⟨p,rfl,d,e⟩:=c;exact⟨p,rfl,d,(a p uB).trans e⟩
 | .node id ks,P,b,c,a=>by
  rw[SRep]at c ⊢;obtain⟨p,us,G,rfl,d,e,g⟩:=c;exact⟨p,us,G,rfl,d,(a p uB).trans e,g.keep (fun q f=>a q (by simp[f]))⟩
 | .nil,P,b,c,a=>by rw[SRep]at c ⊢;exact c
 | .cons s t ks,P,b,c,a=>by
  rw[SRep]at c ⊢;obtain⟨v,us,h,i,rfl,d,e,g⟩:=c;exact⟨v,us,h,i,rfl,d,e.keep (fun q f=>a q (by simp[f])),g.keep (fun q f=>a q (by simp[f]))⟩
theorem SRep.lt:∀{t:Tr}{P:List Nat}{d:List Pl},SRep ns t P d->∀p∈P,p<ns.length
 | .leaf id es,P,d,b,q,a=>by
  rw[SRep]at b;obtain⟨p,rfl,f,c⟩:=b;simp at a;subst a;exact(wb.1 c).1
 | .node id ks,P,d,b,q,a=>by
  rw[SRep]at b;obtain⟨p,us,G,rfl,f,c,e⟩:=b;rcases wA.1 a with rfl|a
  ·exact(wb.1 c).1
  ·exact e.lt q a
 | .nil,P,d,b,q,a=>by rw[SRep]at b;rw[b.1]at a;cases a
 | .cons s t ks,P,d,b,q,a=>by
  rw[SRep]at b;obtain⟨v,us,g,h,rfl,f,c,e⟩:=b;rcases wE.1 a with a|a
  ·exact c.lt q a
  ·exact e.lt q a
theorem SRep.grow{t P a}(d:SRep ns t P a)(b:∀p,p<ns.length->ms[p]?=ns[p]?):SRep ms t P a:=d.keep (fun p c=>b p (d.lt p c))
theorem er{x L P a}:SRep ns (kds (x::L)) P a↔∃(v:Int)(us:List Pl)(b c:List Nat),P=b++c/\a=(x.1,v)::us/\SRep ns x.2 b [(strOfNums [],v)]/\SRep ns (kds L) c us:=by
 show SRep ns (.cons x.1 x.2 (kds L)) P a↔_;rw[SRep]
theorem gE{P a}:SRep ns (kds []) P a↔P=[]/\a=[]:=by
 show SRep ns .nil P a↔_;rw[SRep]
theorem SRep.sg:∀{L:List Kd}{P:List Nat}{us:List Pl},SRep ns (kds L) P us->us.map (·.1)=L.map (·.1)
 |[],P,us,a=>by rw[(gE.1 a).2];rfl
 |x::L,P,us,a=>by
  obtain⟨v,us,c,d,rfl,rfl,e,b⟩:=er.1 a;simp[b.sg]
theorem SRep.len{L P us}(a:SRep ns (kds L) P us):us.length=L.length:=by have:=B8 List.length a.sg;simpa using this
theorem SRep.sgs{L P us}(a:SRep ns (kds L) P us):us.tail.map (·.1)=sgs L:=by unfold Go.Proofs.YtglbanolhhjjiaaGreatDoor.sgs;rw[List.map_tail,a.sg,List.map_tail]
theorem SRep.cat{f d b}(g:SRep ns (kds f) d b):∀{e:List Kd}{c:List Nat}{a:List Pl},SRep ns (kds e) c a->SRep ns (kds (e++f)) (c++d) (a++b)
 |[],c,a,j=>by obtain⟨rfl,rfl⟩:=gE.1 j;exact g
 |x::L,c,a,j=>by
  obtain⟨v,us,h,i,rfl,rfl,k,l⟩:=er.1 j;exact er.2 ⟨v,us++b,h,i++d,uB,uB,k,SRep.cat g l⟩
theorem SRep.split{g}:∀{e:List Kd}{P:List Nat}{us:List Pl},SRep ns (kds (e++g)) P us->∃c d a b,P=c++d/\us=a++b/\a.length=e.length/\SRep ns (kds e) c a/\SRep ns (kds g) d b
 |[],P,us,h=>⟨[],P,[],us,rfl,rfl,rfl,gE.2 ⟨rfl,rfl⟩,h⟩
 |x::L,P,us,h=>by
  obtain⟨v,us,f,n,rfl,rfl,i,j⟩:=er.1 h;obtain⟨c,d,a,b,rfl,rfl,k,l,m⟩:=SRep.split j;exact⟨f++c,d,(x.1,v)::a,b,uB,uB,by simp[k],er.2 ⟨v,a,f,c,rfl,rfl,i,l⟩,m⟩
theorem SRep.at{L P us}(q:SRep ns (kds L) P us){p}(o:p<L.length):∃c G d v,P=c++(G++d)/\us=us.take p++((L.getD p t0).1,v)::us.drop (p+1)/\us.getD p (strOfNums [],0)=((L.getD p t0).1,v)/\
 SRep ns (kds (L.take p)) c (us.take p)/\SRep ns (L.getD p t0).2 G [(strOfNums [],v)]/\SRep ns (kds (L.drop (p+1))) d (us.drop (p+1)):=by
 rw[<-my t0 o]at q;obtain⟨c,d,a,r,rfl,rfl,j,k,l⟩:=SRep.split q;obtain⟨v,b,h,i,rfl,rfl,m,n⟩:=er.1 l;have e:a.length=p:=by rw[j,wv];omega
 have f:(a++((L.getD p t0).1,v)::b).take p=a:=by rw[<-e];simp
 have g:(a++((L.getD p t0).1,v)::b).drop (p+1)=b:=by rw[<-e];simp
 refine⟨c,h,i,v,rfl,by rw[f,g],?_,by rw[f];exact k,m,by rw[g];exact n⟩;rw[<-e];simp
theorem SRep.root{n t P a}(b:SRep ns t P a)(c:wf n t):∃(p:Nat)(G:List Nat),P=p::G/\a=[(strOfNums [],(p:Int))]:=by
 rcases aO c with⟨id,es,_,rfl⟩|⟨id,L,m,_,rfl⟩
 ·rw[SRep]at b;obtain⟨p,rfl,rfl,_⟩:=b;exact⟨p,[],rfl,rfl⟩
 ·rw[SRep]at b;obtain⟨p,us,G,rfl,rfl,_⟩:=b;exact⟨p,G,rfl,rfl⟩
theorem SRep.pgs:∀{t:Tr}{P:List Nat}{c:List Pl},SRep ns t P c->P.map (fun p=>(ns.getD p nd0).page)=ar t
 | .leaf id es,P,c,a=>by
  rw[SRep]at a;obtain⟨p,rfl,e,b⟩:=a;simp[ar,List.getD_eq_getElem?_getD,b,ndL]
 | .node id ks,P,c,a=>by
  rw[SRep]at a;obtain⟨p,us,G,rfl,e,b,d⟩:=a;have:=d.pgs;simp only[vo,this,ar];simp[List.getD_eq_getElem?_getD,b,ndI]
 | .nil,P,c,a=>by rw[SRep]at a;rw[a.1];rfl
 | .cons s t ks,P,c,a=>by
  rw[SRep]at a;obtain⟨v,us,f,g,rfl,e,b,d⟩:=a;rw[zz,b.pgs,d.pgs,ar]
theorem rH{b c:Type}(f:b->c):∀{l:List b},(l.map f).Nodup->l.Nodup
 |[],_=>ya
 |x::l,a=>by
  rw[vo,y1]at a;exact y1.2 ⟨fun hx=>a.1 (List.mem_map_of_mem hx),rH f a.2⟩
theorem SRep.nodup{t P b}(c:SRep ns t P b)(a:(ar t).Nodup):P.Nodup:=rH _ (by rw[c.pgs];exact a)
theorem xH{n}(f:∀t,wf n t->∀d:Int,Rep ns t true [d] []->∃P,SRep ns t P [(strOfNums [],d)]):∀{L:List Kd}{b:Bool}{a:List Int}{c:List ByteArray},(∀x∈L,wf n x.2)->Rep ns (kds L) b a c->∃P us,SRep ns (kds L) P us/\us.map (·.2)=a/\(if b=true then us.tail.map (·.1)else us.map (·.1))=c
 |[],b,a,c,_,l=>by
  have e:Rep ns .nil b a c:=l;rw[Rep]at e;obtain⟨rfl,rfl⟩:=e;exact⟨[],[],gE.2 ⟨rfl,rfl⟩,rfl,by cases b<;>rfl⟩
 |x::L,b,a,c,i,l=>by
  have e:Rep ns (.cons x.1 x.2 (kds L)) b a c:=l;rw[Rep]at e;obtain⟨d,v,k,rfl,rfl,m,o⟩:=e;obtain⟨g,q⟩:=f x.2 (i x uB) d m;obtain⟨h,us,r,s,u⟩:=xH f (fun y p=>i y (by simp[p])) o;refine⟨g++h,(x.1,d)::us,er.2 ⟨d,us,g,h,rfl,rfl,q,r⟩,by simp[s],?_⟩;have j:us.map (·.1)=k:=u;cases b<;>simp[j]
theorem FB:∀{n:Nat}{t:Tr},wf n t->∀d:Int,Rep ns t true [d] []->∃P,SRep ns t P [(strOfNums [],d)]:=by
 intro n;induction n with
 |zero=>
  intro t a d b;rcases aO a with⟨id,es,_,rfl⟩|⟨id,L,m,e,_⟩
  ·rw[Rep]at b;obtain⟨p,c,f⟩:=b;cases c;exact⟨[p],by rw[SRep];exact⟨p,rfl,rfl,f⟩⟩
  ·omega
 |succ n ih=>
  intro t a d b;rcases aO a with⟨id,es,e,_⟩|⟨id,L,m,e,rfl⟩
  ·omega
  ·rw[Rep]at b;obtain⟨p,kd,sg,c,f,h⟩:=b;cases c;obtain⟨P,us,i,j,g⟩:=xH (fun t a d b=>ih a d b) (bq.1 a).2.1 h;refine⟨p::P,?_⟩;rw[SRep];exact⟨p,us,P,rfl,rfl,by rw[f,ndI,j];simp only[if_true]at g;rw[g],i⟩
end
section
theorem im:∀es:List En,2*es.length<=lSz es
 |[]=>t1
 |e::es=>by rw[gz];have:=im es;simp[eSz];omega
theorem gQ:∀a:List ByteArray,5*a.length<=aH a
 |[]=>t1
 |e::es=>by rw[fW];have:=gQ es;simp[gSz];omega
theorem xI{b:Type}{l:List b}{j}(d)(a:j<l.length):l.take (j+1)=l.take j++[l.getD j d]:=by
 rw[xd a,x3,wy a]
 rfl
theorem xJ(es j):lSz (es.take j)<=lSz es:=mv (List.take_sublist _ _)
theorem xK(es j):aH (es.take j)<=aH es:=om (List.take_sublist _ _)
theorem xL{es:List En}{j}(a:j<es.length):lSz (es.take (j+1))=lSz (es.take j)+eSz (es.getD j en0):=by rw[xI en0 a,kK];simp[lSz]
theorem xM{es:List ByteArray}{j}(a:j<es.length):aH (es.take (j+1))=aH (es.take j)+gSz (es.getD j (strOfNums [])):=by rw[xI (strOfNums []) a,iE];simp[aH]
def kSz(es:List En)(K:NdK):Nat:=lSz es+aH K.signs+(if K.leaf then 0 else 4)
theorem eF{a b:Type}(f:a->b)(l:List a)(j d):(l.map f).getD j (f d)=f (l.getD j d):=by
 simp only[x3,y2];cases l[j]?<;>rfl
variable {B0 g:Nat} {rest:List Value} {rt:Int} {w:World} {ns:List NdK} {nv:Nat->NdV} {na:Option Addr} {nc:Nat}
theorem mD(N:USt B0 g rest rt w ns nv na nc){p K}(Y:ns[p]?=some K)(es)(H:K.keys=es.map (·.1))(I:K.vals=es.map (·.2))(a5:lSz es<=1000000)(a2:aH K.signs<=1000000)(aB:ns.length<=1048576):
 Calls prog 162 #[.pointer (some ⟨g,0,none⟩),.int .i64 (p:Nat)] w fun e w'=>e= .returned (.int .i64 (ad es K:Nat))/\Below w.1.size w w':=by
 obtain⟨b,rfl,n,Z,aS⟩:=N.cells Y;have W:w.cell? ⟨g,0,none⟩=some (.slice (some ⟨b,0,none⟩) ns.length nc):=N.blk.cell 0;have J:=bAl w (.cells (ndc (nv p) K).toArray 176);have ac:=aq w 176 (ndc (nv p) K).toArray;have T:=Z.below J;have ae:(prog.info? 176).map (·.size)=some (ndc (nv p) K).length:=aD;have a0:=im es;have a1:=gQ K.signs;go_enter func162,ntmps162;go_upto_region 2 with(first|(refine dG rfl 176 _ rfl b (p*6) rfl (ndc (nv p) K) _ n underlying176 rfl ae ?_)|(refine bt rfl 176 _ _ rfl w (ndc aF nd0).toArray (ndc (nv p) K).toArray 176 rfl rfl aD rfl (cy _ _) ?_))
 change Code.wp _ _ _ _ (w.alloc (.cells (ndc (nv p) K).toArray 176));generalize w.alloc (.cells (ndc (nv p) K).toArray 176)=E at*;have D:Blk E 176 w.1.size (ndc (nv p) K):=ac;have R:Hid (∀u,Below E.1.size E u->Blk u 176 w.1.size (ndc (nv p) K)/\RNd u (nv p) K):=fun u ab=>⟨D.below ab,T.below ab⟩;have P:Hid _:=J;have C:Hid (K.keys=es.map (·.1)/\K.vals=es.map (·.2)):=⟨H,I⟩;have d:Hid (K.keys.length=es.length/\K.vals.length=es.length):=by show _/\_;rw[H,I];simp
 clear ac D T Z J n W N Y ae H I;go_wp2_with fail;go_loopw [6,7] (fun v x wr=> ∃j:Nat,x= .int .i64 (j:Nat)/\v= .int .i64 (lSz (es.take j):Nat)/\j<=es.length/\Below E.1.size E wr) (fun _ x _=>es.length-(intOf x).toNat)
 case atStart=>exact⟨0,rfl,rfl,u6 _,t2⟩
 case round=>
  obtain⟨j,rfl,rfl,a4,c⟩:=hrel;obtain⟨O,y⟩:=aa wr;subst y;obtain⟨f,l⟩:=R.out O c;have V:O.cell? ⟨w.1.size,2,none⟩=some (.slice (nv p).ka es.length (nv p).kc):=by rw[<-d.out.1];exact f.cell 2
  have q:Hid _:=c;clear c;by_cases a:j<es.length
  ·have m:(j:Int)< (es.length:Int):=t7;have ak:O.cell? ⟨w.1.size,3,none⟩=some (.slice (nv p).va es.length (nv p).vc):=by rw[<-d.out.2];exact f.cell 3
   have L:=l.keys;have M:=l.vals;rw[d.out.1]at L;rw[d.out.2]at M;obtain⟨ag,aA,t,G⟩:=L.get a;obtain⟨aT,a6,X,an⟩:=M.get a;rw[eh _ _ (by rw[d.out.1];exact a),C.out.1,show strOfNums []=en0.1 from rfl,eF]at G;rw[eh _ _ (by rw[d.out.2];exact a),C.out.2,show strOfNums []=en0.2 from rfl,eF]at an;rw[t]at V;rw[X]at ak;have s:Hid _:=xL a;have k:=xJ es (j+1);rw[s.out]at k;have r:Hid (eSz (es.getD j en0)=2+(es.getD j en0).1.size+(es.getD j en0).2.size):=rfl;rw[r.out]at k;generalize (es.getD j en0).1=ap at*;generalize (es.getD j en0).2=aX at*;generalize lSz (es.take j)=S at*;clear L M t X f l;go_wp2_with fail
   go_quiet (fail)
   go_wp2_with fail;go_roundw
   case rel=>exact⟨j+1,by go_num,by rw[s.out,r.out];go_num,t7,gx q.out _⟩
   case measure=>simp[intOf];omega
  ·have m:¬(j:Int)< (es.length:Int):=t7;have h:lSz (es.take j)=lSz es:=by rw[wC t7]
   rw[h];clear f l h;go_wp2_with fail;clear V;go_loopw [6,8] (fun v x wr=> ∃j:Nat,x= .int .i64 (j:Nat)/\v= .int .i64 (lSz es+aH (K.signs.take j):Nat)/\j<=K.signs.length/\Below E.1.size E wr) (fun _ x _=>K.signs.length-(intOf x).toNat)
   case atStart=>exact⟨0,rfl,rfl,u6 _,q.out⟩
   case round=>
    obtain⟨i,rfl,rfl,a3,c⟩:=hrel;obtain⟨A,y⟩:=aa wr;subst y;obtain⟨f,l⟩:=R.out A c;have am:A.cell? ⟨w.1.size,5,none⟩=some (.slice (nv p).sa K.signs.length (nv p).sc):=f.cell 5;have F:A.cell? ⟨w.1.size,1,none⟩=some (.bool K.leaf):=f.cell 1;have B:Hid _:=c;clear c q;by_cases a:i<K.signs.length
    ·have m:(i:Int)< (K.signs.length:Int):=t7;obtain⟨ag,aA,t,G⟩:=l.signs.get a;rw[eh _ _ a]at G;rw[t]at am;have s:Hid _:=xM a;have k:=xK K.signs (i+1);rw[s.out]at k;have r:Hid (gSz (K.signs.getD i (strOfNums []))=5+(K.signs.getD i (strOfNums [])).size):=rfl;rw[r.out]at k;generalize K.signs.getD i (strOfNums [])=ap at*;generalize aH (K.signs.take i)=S at*;generalize K.signs.length=U at*;clear t f l F;go_wp2_with fail;go_roundw
     case rel=>exact⟨i+1,by go_num,by rw[s.out,r.out];go_num,t7,B.out⟩
     case measure=>simp[intOf];omega
    ·have m:¬(i:Int)< (K.signs.length:Int):=t7;have h:aH (K.signs.take i)=aH K.signs:=by rw[wC t7]
     rw[h];have z:Hid (ad es K=lSz es+aH K.signs+(if K.leaf then 0 else 4)):=rfl;have Q:Hid (Below w.1.size w A):=P.out.trans (B.out.mono P.out.size);clear f l h;cases o:K.leaf with
     |true=>
      rw[o]at F z;clear o;generalize K.signs.length=U at*;generalize aH K.signs=af at*;go_wp2_with fail;go_ret;rw[z.out];exact⟨by go_num,Q.out⟩
     |false=>
      rw[o]at F z;clear o;generalize K.signs.length=U at*;generalize aH K.signs=af at*;go_wp2_with fail;go_ret;rw[z.out];exact⟨by go_num,Q.out⟩
end
section
variable {B0 g:Nat} {rest:List Value} {rt:Int} {w w' w2:World} {ns:List NdK} {nv:Nat->NdV} {na:Option Addr} {nc:Nat}
def UQ(B0 g:Nat)(rest:List Value)(rt:Int)(na:Option Addr)(w w':World)(ms:List NdK):Prop:= ∃nv' na' nc',USt B0 g rest rt w' ms nv' na' nc'/\UFr g na w w'/\(na'=na\/∃k,na'=some ⟨k,0,none⟩/\w.1.size<=k)
theorem USt.uq{w0 a}(c:USt B0 g rest rt w ns nv na nc)(f:UFr g a w0 w)(b:na=a\/∃k,na=some ⟨k,0,none⟩/\w0.1.size<=k):UQ B0 g rest rt a w0 w ns:=⟨nv,na,nc,c,f,b⟩
theorem UQ.below{a w0}(j:UQ B0 g rest rt a w0 w ns)(b:Below w.1.size w w'):UQ B0 g rest rt a w0 w' ns:=by
 obtain⟨e,c,d,f,h,i⟩:=j;exact⟨e,c,d,f.below b,h.trans (OnlyS.ofBelow b),i⟩
theorem UQ.after{a b w0 w1}(m:UQ B0 g rest rt b w1 w ns)(f:UFr g a w0 w1)(c:b=a\/∃k,b=some ⟨k,0,none⟩/\w0.1.size<=k):UQ B0 g rest rt a w0 w ns:=by
 obtain⟨h,d,e,i,j,l⟩:=m;refine⟨h,d,e,i,f.step j c,?_⟩;rcases l with rfl|⟨k,rfl,hk⟩
 ·exact c
 ·exact u4 ⟨k,rfl,u9 f.size hk⟩
theorem oU(w n):Below w.1.size w (w.drewN n):=⟨rfl,rfl,rfl,t1,fun _ _=>rfl⟩
theorem xO{na b a:Option Addr}{w w1:World}(c:b=na\/∃k,b=some ⟨k,0,none⟩/\w.1.size<=k)(d:a=b\/∃k,a=some ⟨k,0,none⟩/\w1.1.size<=k)(e:w.1.size<=w1.1.size):a=na\/∃k,a=some ⟨k,0,none⟩/\w.1.size<=k:=by
 rcases d with rfl|⟨k,rfl,hk⟩
 ·exact c
 ·exact u4 ⟨k,rfl,t7⟩
theorem iY{o:Oper}{c:Act}{d:Act->World->Prop}{D:Exit->Act->World->Prop}{b p:Nat}(i:USt B0 g rest rt w ns nv (some ⟨b,0,none⟩) nc){v:NdV}{K:NdK}(r:RNd w v K)(t:p<ns.length){x y:Operand}(s:o.op= .store 176 x y)(hx:c.eval x= .pointer (some ⟨b,p*6,none⟩))(A:c.eval y= .agg (ndc v K).toArray)
 (f:∀u,USt B0 g rest rt u (ns.set p K) (eA nv p v) (some ⟨b,0,none⟩) nc->OnlyB b w u->d c u)(n:o.dst=none:=by rfl):o.wp prog c w d D:=by
 obtain⟨a,h,C,B⟩:∃a,w.heap[b]?=some (.cells a 176 (0,0))/\a.size=nc*6/\ns.length<=nc:=by
  rcases i.nodes.2 with⟨e,_⟩|⟨E,j,k,e,H,f,l,F,m,G⟩
  ·cases e
  ·cases e;exact⟨_,f,m,l⟩
 have q:Blk w 176 b a.toList:=by unfold Blk;simpa using h
 have z:=tg (P:=prog) w b (p*6) 176 176 a.toList (ndc v K) q aD (by have:=Array.length_toList (xs:=a);have:(ndc v K).length=6:=rfl;omega) (eo _ _);unfold Oper.wp execOp;simp only[s,hx,A,Instr.storeAt,Instr.sureAddr,B3,Ct,C0,z];show d (c.put o.dst undef) _;rw[n];exact f _ (i.store rfl r t h) (du w b _)
theorem bK{o:Oper}{a:Act}{c:Act->World->Prop}{p:Exit->Act->World->Prop}{t d k:Nat}{b cs:List Value}(f:Blk w t k b)(q:b.length=cs.length)(h:∀v∈cs,v.oneCell'=true)(l:(prog.info? d).map (·.size)=some cs.length){x y:Operand}(m:o.op= .store d x y)(hx:a.eval x= .pointer (some ⟨k,0,none⟩))(n:a.eval y= .agg cs.toArray)
 (j:∀u,Blk u t k cs->OnlyB k w u->c a u)(i:o.dst=none:=by rfl):o.wp prog a w c p:=by
 have g:=tg (P:=prog) w k 0 d t b cs f l t7 h;have e:b.take 0++cs++b.drop (0+cs.length)=cs:=by rw[zW t7];simp
 rw[e]at g;unfold Oper.wp execOp;simp only[m,hx,n,Instr.storeAt,Instr.sureAddr,B3,Ct,C0,g];show c (a.put o.dst undef) _;rw[i];exact j _ (f.setRow cs) (du w k _)
theorem lj{b:Nat}{e s B:Nat}{n c:Nat}{xs:List Value}(i:w.ownsRow B e s (.slice (some ⟨b,0,none⟩) n c) n xs):w.heap[b]?=some (.cells ((match w.heap[b]? with|some (.cells cur _ _)=>cur|_=>#[])) e (0,0)):=by
 rcases i.2 with⟨a,_⟩|⟨h,d,f,a,_,g,_⟩
 ·cases a
 ·cases a;rw[g]
theorem rK{b}{e s B:Nat}{a n c xs}(j:w.ownsRow B e s (.slice a n c) n xs)(f:a≠some ⟨b,0,none⟩):(Value.slice a n c).ownBlock≠some b:=by
 intro e0;rcases j.2 with⟨d,_⟩|⟨i,g,h,d,_⟩
 ·rw[d]at e0;simp[Value.ownBlock]at e0
 ·rw[d]at e0;simp[Value.ownBlock]at e0;simp only[DC]at d;subst e0;exact f d.1
theorem ll(x)(a: -9223372036854775808<=x)(b:x<=9223372036854775807):IntKind.i64.wrap x=x:=by
 simp[IntKind.wrap,IntKind.bits,IntKind.signed];omega
theorem xQ(a b n c m d):prog.built 176 [(1,.bool true),(2,.slice a n c),(3,.slice b m d)]=some #[.int .i64 0,.bool true,.slice a n c,.slice b m d,.slice none 0 0,.slice none 0 0]:=uA
theorem xR(a b n c m d):prog.built 176 [(4,.slice a n c),(5,.slice b m d)]=some #[.int .i64 0,.bool false,.slice none 0 0,.slice none 0 0,.slice a n c,.slice b m d]:=uA
theorem oZ{P w t}{c:Operand->Value}{x b a o p v l h}(f:o.op= .slice t x b a none)(hx:c x=p)(e:b.map c=l)(d:a.map c=h)(g:(Instr.sliceAt t p l h none).run P w= .ok v w):(execOp c o).run P w= .ok (.value v) w:=by
 unfold execOp;simp only[f,hx,e,d,Option.map_none,B3,g,C0,Ct]
theorem R1.cutFrom{t e bytes h}(T:ElT t e 1 h bytes){a n c xs}(g:R1 e w a n c xs){i}(f:i<=n):∃b d,(∀u,(Instr.sliceAt t (.slice a n c) (some (.int .i64 (i:Int))) none none).run prog u= .ok (.slice b (n-i) d) u)/\R1 e w b (n-i) d (xs.drop i):=⟨_,_,fun u=>tV T u a n c i f,g.drop f⟩
theorem lm{P:Program}{w:World}{d:Operand->Value}{o:Oper}{t:TypeId}{a:Array (Nat×Operand)}(c:o.op= .build t a){cs:Array Value}(b:P.built t (a.map fun(i,x)=>(i,d x)).toList=some cs):(execOp d o).run P w= .ok (.value (.agg cs)) w:=by
 unfold execOp;simp only[c,B3,run_build w t _ cs b,C0,Ct]
end
section
theorem xS:∀(es:List En)(a j:Nat),j<=ctE a es->j<es.length->(a+lSz (es.take j)+eSz (es.getD j en0)<=240↔j<ctE a es)
 |[],a,j,_,f=>by simp at f
 |e::es,a,0,_,_=>by
  rw[ctE];simp only[List.take_zero,List.getD_cons_zero,lSz,v6,List.sum_nil,wR];split<;>omega
 |e::es,a,j+1,b,c=>by
  rw[ctE]at b ⊢;split at b
  ·rename_i d;rw[BC d];have:=xS es (a+eSz e) j t7 (by simpa using c);rw[A5,gz,A6];omega
  ·omega
variable {B0 g:Nat} {rest:List Value} {rt:Int} {w:World} {ns:List NdK} {nv:Nat->NdV} {na:Option Addr} {nc:Nat}
theorem FC(b3:USt B0 g rest rt w ns nv na nc){p id es}(a:ns[p]?=some (ndL id es))(eK:240<lSz es)(eW:lSz es<=1000000)(eB:ns.length<=1048575):
 Calls prog 163 #[.pointer (some ⟨g,0,none⟩),.int .i64 (p:Nat)] w fun e w'=>e= .returned (.tuple #[.int .i64 (ns.length:Nat),.string (es.getD (ctE 0 es) en0).1])/\UQ B0 g rest rt na w w' (ns.set p (ndL id (es.take (ctE 0 es)))++[ndL 0 (es.drop (ctE 0 es))]):=by
 have ek:=im es;obtain⟨eV,_⟩:=ri es 0 t7 t7;have eb:Hid (∀j,j<=ctE 0 es->(lSz (es.take j)+eSz (es.getD j en0)<=240↔j<ctE 0 es)):=fun j cS=>by have:=xS es 0 j cS t7;rwa [wg]at this
 generalize ctE 0 es=m at*;have b7:Hid _:=b3;obtain⟨b,rfl,aB,dF,dU⟩:=b3.cells a;have db:w.cell? ⟨g,0,none⟩=some (.slice (some ⟨b,0,none⟩) ns.length nc):=b3.blk.cell 0;have h:Hid ((ndL id es).keys.length=es.length/\(ndL id es).vals.length=es.length):=by show _/\_;simp[ndL]
 have am:Hid ((ndL id es).keys=es.map (·.1)/\(ndL id es).vals=es.map (·.2)):=⟨rfl,rfl⟩;generalize cf:ndL id es=K at*;have cW:=bAl w (.cells (ndc (nv p) K).toArray 176);have dW:=aq w 176 (ndc (nv p) K).toArray;have c7:=dF.below cW;have d7:(prog.info? 176).map (·.size)=some (ndc (nv p) K).length:=aD;have b6:Hid _:=cf;clear cf;go_enter func163,ntmps163;go_upto_region 2 with(first|(refine dG rfl 176 _ rfl b (p*6) rfl (ndc (nv p) K) _ aB underlying176 rfl d7 ?_)|(refine bt rfl 176 _ _ rfl w (ndc aF nd0).toArray (ndc (nv p) K).toArray 176 rfl rfl aD rfl (cy _ _) ?_))
 change Code.wp _ _ _ _ (w.alloc (.cells (ndc (nv p) K).toArray 176));generalize w.alloc (.cells (ndc (nv p) K).toArray 176)=c0 at*;have cm:Blk c0 176 w.1.size (ndc (nv p) K):=dW;have c6:Hid (∀u,Below c0.1.size c0 u->Blk u 176 w.1.size (ndc (nv p) K)/\RNd u (nv p) K):=fun u bW=>⟨cm.below bW,c7.below bW⟩;have c1:Hid _:=cW;clear dW cm c7 dF cW aB db b3 a d7;go_wp2_with fail;go_loopw [7,8] (fun x v wr=> ∃j:Nat,x= .int .i64 (j:Nat)/\v= .int .i64 (lSz (es.take j):Nat)/\j<=m/\Below c0.1.size c0 wr) (fun x _ _=>es.length-(intOf x).toNat)
 case atStart=>exact⟨0,rfl,rfl,u6 _,t2⟩
 case round=>
  obtain⟨j,rfl,rfl,cS,bl⟩:=hrel;obtain⟨Q,dV⟩:=aa wr;subst dV;obtain⟨cV,cX⟩:=c6.out Q bl;have a0:Q.cell? ⟨w.1.size,2,none⟩=some (.slice (nv p).ka es.length (nv p).kc):=by rw[<-h.out.1];exact cV.cell 2
  have q:Q.cell? ⟨w.1.size,3,none⟩=some (.slice (nv p).va es.length (nv p).vc):=by rw[<-h.out.2];exact cV.cell 3
  have b5:Hid _:=bl;have o:j<es.length:=t7;have M:=cX.keys;have O:=cX.vals;rw[h.out.1]at M;rw[h.out.2]at O;obtain⟨eL,e3,a2,bT⟩:=M.get o;obtain⟨eM,e4,cM,dd⟩:=O.get o;rw[eh _ _ (by rw[h.out.1];exact o),am.out.1,show strOfNums []=en0.1 from rfl,eF]at bT;rw[eh _ _ (by rw[h.out.2];exact o),am.out.2,show strOfNums []=en0.2 from rfl,eF]at dd;rw[a2]at a0;rw[cM]at q;have c5:Hid _:=xL o;have br:=xJ es (j+1);rw[c5.out]at br;have bk:=eb.out j cS;have c2:Hid (eSz (es.getD j en0)=2+(es.getD j en0).1.size+(es.getD j en0).2.size):=rfl;rw[c2.out]at br bk;have a6:Hid _:=(rfl:(es.getD j en0).1=(es.getD j en0).1);generalize cj:(es.getD j en0).1=cR at*;generalize (es.getD j en0).2=ej at*;generalize dI:lSz (es.take j)=S at*;have a6:Hid (j=m->(es.getD m en0).1=cR):=fun e=>by rw[<-e];exact cj
  clear M O cV cX bl cj dI;go_wp2_with fail
  go_quiet (fail)
  by_cases bn:j<m
  ·have dP:=bk.2 bn;clear bk;go_wp2_with fail
   go_quiet (fail)
   go_wp2_with fail;go_roundw
   case rel=>exact⟨j+1,by go_num,by rw[c5.out,c2.out];go_num,t7,gx b5.out _⟩
   case measure=>simp[intOf];omega
  ·have dP:¬(S:Int)+2+(cR.size:Int)+(ej.size:Int)<=240:=by have:=fun eN=>bn (bk.1 eN);omega
   have dS:j=m:=t7;subst dS;clear bk bn;go_wp2_with fail;have ch:=b5.out.trans (⟨rfl,rfl,rfl,t1,fun _ _=>rfl⟩:Below c0.1.size Q (Q.drewN nq).drew);obtain⟨bu,b2⟩:=c6.out _ ch;have bm:=c1.out.trans (ch.mono c1.out.size);rw[<-a2]at a0;rw[<-cM]at q;have b9:(Q.drewN nq).drew.cell? ⟨w.1.size,2,none⟩=some (.slice (nv p).ka es.length (nv p).kc):=a0;have ca:(Q.drewN nq).drew.cell? ⟨w.1.size,3,none⟩=some (.slice (nv p).va es.length (nv p).vc):=q;refine az (fun u=>u.cell? ⟨w.1.size,2,none⟩=some (.slice (nv p).ka es.length (nv p).kc)/\u.cell? ⟨w.1.size,3,none⟩=some (.slice (nv p).va es.length (nv p).vc)) (fun k=>decide (10<=k)) uA ?_;generalize (Q.drewN nq).drew=cD at*;have cs:=u2 b9 ca;have M:=b2.keys;have O:=b2.vals;rw[h.out.1]at M;rw[h.out.2]at O;obtain⟨R,V,d8,a8⟩:=M.cutFrom bM (i:=j) t7;obtain⟨T,W,d9,a9⟩:=O.cutFrom bM (i:=j) t7;clear bT dd a0 q a2 cM br dP;refine aj 0 cs ?_;refine aj 1 cs ?_;refine aj 2 cs ?_;refine aM 3 (.slice R (es.length-j) V) cs (fun u _=>oZ rfl rfl rfl rfl (d8 u)) ?_;refine aj 4 cs ?_;refine aj 5 cs ?_;refine aj 6 cs ?_;refine aM 7 (.slice T (es.length-j) W) cs (fun u _=>oZ rfl rfl rfl rfl (d9 u)) ?_;refine aM 8 (.agg #[.int .i64 0,.bool true,.slice R (es.length-j) V,.slice T (es.length-j) W,.slice none 0 0,.slice none 0 0]) cs ?hb8 ?_
   case hb8=>exact fun u _=>lm rfl (by simp only[wa,vo,v6];exact xQ _ _ _ _ _ _)
   refine ah 9 fun l a=> ?_;go_wp2_with fail;have bB:=bAl cD (.cells (ndc aF nd0).toArray 176);have ea:=aq cD 176 (ndc aF nd0).toArray;have cb:=u2 (bB.cell (p:=⟨w.1.size,2,none⟩) bu.lt▸cs.1) (bB.cell (p:=⟨w.1.size,3,none⟩) bu.lt▸cs.2);refine ao a ?_ (fun _=>cb);clear a l cb;refine ah 10 fun l a=> ?_;have cP:ndc ⟨R,V,T,W,none,0,none,0⟩ (ndL 0 (es.drop j))=[.int .i64 0,.bool true,.slice R (es.length-j) V,.slice T (es.length-j) W,.slice none 0 0,.slice none 0 0]:=by simp[ndc,ndL]
   refine bK (cs:=[.int .i64 0,.bool true,.slice R (es.length-j) V,.slice T (es.length-j) W,.slice none 0 0,.slice none 0 0]) ea rfl (by rw[<-cP];exact eo _ _) aD rfl rfl rfl ?_;intro b4 b0 d2;refine aU a ?_;clear a l ea;rw[<-cP]at b0;have D:=bB.trans (d2.below t1 bB.size);have bY:=bu.below D;have d3:=b2.below D;have d6:RNd b4 ⟨R,V,T,W,none,0,none,0⟩ (ndL 0 (es.drop j)):=by
    have dl:List.drop j (os K.keys)=os (ndL 0 (es.drop j)).keys:=by rw[am.out.1];simp[os,ndL,List.map_drop]
    have dp:List.drop j (os K.vals)=os (ndL 0 (es.drop j)).vals:=by rw[am.out.2];simp[os,ndL,List.map_drop]
    rw[dl]at a8;rw[dp]at a9;refine⟨?_,?_,gh _ _,gh _ _⟩
    ·rw[show(ndL 0 (es.drop j)).keys.length=es.length-j by simp[ndL]];exact a8.below D
    ·rw[show(ndL 0 (es.drop j)).vals.length=es.length-j by simp[ndL]];exact a9.below D
   have cv:=M.below D;have aX:=O.below D;have aA:=bm.trans (D.mono bm.size);have ex:=bu.lt;have eC:=b0.lt;have an:=t6 b0 (u2 d6 (u2 d3 aA));have ak:Hid _:=bY;have c9:b4.cell? ⟨w.1.size,2,none⟩=some (.slice (nv p).ka es.length (nv p).kc):=by rw[<-h.out.1];exact bY.cell 2
   have dq:=bY.free 2;clear M O d8 d9 a8 a9 b0 d2 D bY d3 d6 bB bu b2 cs b9 ca cP;go_upto_region 9 with(refine iM bM cv (z2 o) rfl rfl rfl rfl ?_)
   intro ab q L;go_upto_region 9 with fail
   have H:=ax b4 w.1.size 2 (.slice ab j q);have r:=aw (t:=9) H ak.out uv;have ae:=aw (t:=3) H ak.out uv;have aS:=Blk.set ak.out 2 (.slice ab j q);have bv:=an.out.1.only H t7;have A:=t6 (aA.trans (H.below t1 aA.size)) (u2 bv (u2 (an.out.2.1.keep r ae) (an.out.2.2.1.keep r ae)));replace L:=L.keep r;replace aX:=aX.keep r;clear an ak aA r ae H bv c9 dq cv;generalize b4.setCell ⟨w.1.size,2,none⟩ (.slice ab j q)=U at*;have da:U.cell? ⟨w.1.size,3,none⟩=some (.slice (nv p).va es.length (nv p).vc):=by rw[<-h.out.2];exact aS.cell 3
   have dr:=aS.free 3;have B:Hid _:=aS;clear aS;go_upto_region 10 with(refine iM bM aX (z2 o) rfl rfl rfl rfl ?_)
   intro ac ad a4;go_upto_region 10 with fail
   have I:=ax U w.1.size 3 (.slice ac j ad);have s:=aw (t:=9) I B.out uv;have af:=aw (t:=3) I B.out uv;have bs:=Blk.set B.out 3 (.slice ac j ad);have bx:=A.out.2.1.only I t7;have ba:=A.out.1.trans (I.below t1 A.out.1.size);have bE:=A.out.2.2.1.keep s af;have aT:=A.out.2.2.2.keep s af;replace L:=L.keep s;replace a4:=a4.keep s;clear A B s af I da dr aX;generalize U.setCell ⟨w.1.size,3,none⟩ (.slice ac j ad)=cA at*;have d4:RNd cA ⟨ab,q,ac,ad,(nv p).da,(nv p).dc,(nv p).sa,(nv p).sc⟩ (ndL id (es.take j)):=by
    rw[<-b6.out]at aT L a4;have ev:(es.take j).length=j:=by rw[wv];omega
    refine⟨?_,?_,aT.kids,aT.signs⟩
    ·rw[show(ndL id (es.take j)).keys.length=j by simp[ndL];omega];have:List.take j (os (ndL id es).keys)=os (ndL id (es.take j)).keys:=by simp[os,ndL,List.map_take]
     rw[this]at L;exact L
    ·rw[show(ndL id (es.take j)).vals.length=j by simp[ndL];omega];have:List.take j (os (ndL id es).vals)=os (ndL id (es.take j)).vals:=by simp[os,ndL,List.map_take]
     rw[this]at a4;exact a4
   have dk:((ndc (nv p) K).set 2 (.slice ab j q)).set 3 (.slice ac j ad)=ndc ⟨ab,q,ac,ad,(nv p).da,(nv p).dc,(nv p).sa,(nv p).sc⟩ (ndL id (es.take j)):=by
    rw[<-b6.out];simp[ndc,ndL,Nat.min_eq_left (Nat.le_of_lt o)]
   rw[dk]at bs;generalize (⟨ab,q,ac,ad,(nv p).da,(nv p).dc,(nv p).sa,(nv p).sc⟩:NdV)=vL at*;generalize (⟨R,V,T,W,none,0,none,0⟩:NdV)=n at*;generalize ce:ndL id (es.take j)=Z at*;generalize bf:ndL 0 (es.drop j)=c at*;have F:c.keys.getD 0 (strOfNums [])=cR/\0<c.keys.length:=by
    rw[<-bf,<-a6.out trivial];refine⟨?_,?_⟩
    ·show((es.drop j).map (·.1)).getD 0 en0.1= _;rw[eF,ng,wR]
    ·simp only[ndL,x7,vk];omega
   have a7:Hid (ndL id (es.take j)=Z/\ndL 0 (es.drop j)=c):=⟨ce,bf⟩;clear L a4 aT dk ce bf;generalize cD.1.size=N at*;have et:=(cE b7.out.nodes b (by simp[rb])).2;have ap:Hid (∀(u:World)(k:Nat)(v:NdV)(cL:NdK),Blk u 176 k (ndc v cL)->(Instr.loadAt 176 (.pointer (some ⟨k,0,none⟩))).run prog u= .ok (.agg (ndc v cL).toArray) u):=fun u k v cL bW=>by
    simp only[Instr.loadAt,Instr.sureAddr,B3,Ct,Result.andThen];exact C3 u k 176 176 (ndc v cL).toArray (0,0) _ bW underlying176 rfl aD
   have a1:=bDr cA;have bb:=ba.trans (a1.mono ba.size);have cl:=bs.below a1;have bz:=bx.below a1;have bC:=d4.below a1;have bF:=bE.below a1;have y:=b7.out.below bb;refine az (fun u=>u.cell? ⟨g,0,none⟩=some (.slice (some ⟨b,0,none⟩) ns.length nc)/\(Instr.loadAt 176 (.pointer (some ⟨w.1.size,0,none⟩))).run prog u= .ok (.agg (ndc vL Z).toArray) u) (fun k=>decide (7<=k)) uA ?_;clear a1 bs bx d4 bE ba;generalize cA.drew=cA at*;have cs:cA.cell? ⟨g,0,none⟩=some (.slice (some ⟨b,0,none⟩) ns.length nc)/\(Instr.loadAt 176 (.pointer (some ⟨w.1.size,0,none⟩))).run prog cA= .ok (.agg (ndc vL Z).toArray) cA:=⟨y.blk.cell 0,ap.out _ _ _ _ cl⟩;refine aj 0 cs ?_;refine aj 1 cs ?_;refine aj 2 cs ?_;refine aj 3 cs ?_;refine aj 4 cs ?_;refine aM 5 (.agg (ndc vL Z).toArray) cs ?hy5 ?_
   case hy5=>exact fun u bg=>bo (p:= .pointer (some ⟨w.1.size,0,none⟩)) rfl rfl bg.2
   refine aj 6 cs ?_;refine ah 7 fun l a=> ?_;refine iY y bC dU rfl rfl rfl ?_;intro cB bP J;refine aU a ?_;clear a l cs;have bA:=bz.only J t7;have ag:=bF.keep (cx J (lj y.nodes) uv) (cx J (lj y.nodes) uv);have cc:UFr g (some ⟨b,0,none⟩) w cB:=(OnlyS.ofBelow bb).trans ((OnlyS.ofB J).mono (fun k _ em=>u4 (by rw[em])));have ck:(ns.set p Z).length=ns.length:=A1;have c3:Hid _:=ck;have en:(ns.set p Z).length<=1048575:=t7;have Y:Hid _:=cc;clear y J cl bz bC bF bb cc ck;generalize cg:ns.set p Z=f at*;generalize eA nv p vL=dX at*;have c4:Hid _:=cg;clear cg;have cT:(some ⟨b,0,none⟩:Option Addr)≠some ⟨N,0,none⟩:=fun e=>by cases e;omega
   go_wp2_with fail;have bd:=bDr cB;have P:=bP.below bd;have bZ:=bA.below bd;have d5:=ag.below bd;refine az (fun u=>u.cell? ⟨g,0,none⟩=some (.slice (some ⟨b,0,none⟩) f.length nc)/\(Instr.loadAt 176 (.pointer (some ⟨N,0,none⟩))).run prog u= .ok (.agg (ndc n c).toArray) u) (fun k=>decide (8<=k)) uA ?_;generalize cB.drew=z at*;have cs:z.cell? ⟨g,0,none⟩=some (.slice (some ⟨b,0,none⟩) f.length nc)/\(Instr.loadAt 176 (.pointer (some ⟨N,0,none⟩))).run prog z= .ok (.agg (ndc n c).toArray) z:=⟨P.blk.cell 0,ap.out _ _ _ _ bZ⟩;have b1:=bAl z (.cells (ndc n c).toArray 176);have dc:(z.alloc (.cells (ndc n c).toArray 176)).cell? ⟨g,0,none⟩=some (.slice (some ⟨b,0,none⟩) f.length nc)/\(Instr.loadAt 176 (.pointer (some ⟨N,0,none⟩))).run prog (z.alloc (.cells (ndc n c).toArray 176))= .ok (.agg (ndc n c).toArray) (z.alloc (.cells (ndc n c).toArray 176)):=⟨(P.below b1).blk.cell 0,ap.out _ _ _ _ (bZ.below b1)⟩;have C:Hid _:=bd;have d:=t6 P (u2 d5 (bZ.below b1));have dE:=P.gB;clear bd P d5 bZ b1;refine aj 0 cs ?_;refine aj 1 cs ?_;refine aj 2 cs ?_;refine aj 3 cs ?_;refine aj 4 cs ?_;refine aM 5 (.agg (ndc n c).toArray) cs ?hyp5 ?_
   case hyp5=>exact fun u bg=>bo (p:= .pointer (some ⟨N,0,none⟩)) rfl rfl bg.2
   refine ah 6 fun l a=> ?_;refine bU _ _ _ rfl (v:= .slice (some ⟨z.1.size,0,none⟩) 1 1) (w':=(z.alloc (.cells (ndc n c).toArray 176))) ?bsp ?_
   case bsp=>
    simp only[wa,vo,v6];exact fq eY t7 (.agg (ndc n c).toArray) (ndc n c) rfl rfl z
   refine ao a ?_;clear a l;refine ah 7 fun l a=> ?_;refine gW _ _ eY rfl B0 (some ⟨b,0,none⟩) f.length nc (cd dX f) rfl d.out.1.nodes (ndc n c) rfl (eo _ _) rfl t7 t7 dE ?_;intro a3 bc a5 d1 c8 E b8;have G:Blk a5 176 N (ndc n c):=(E.block N d.out.2.2.lt (rK d.out.1.nodes cT).symm).trans d.out.2.2;have bX:Blk a5 116 g _:=d.out.1.blk.keepT ((aV (bAl _ _)).trans (bD (bQ d.out.1.nodes (bAl _ _)) E uv));have bS:a5.cell? ⟨g,0,none⟩=some (.slice (some ⟨b,0,none⟩) f.length nc):=bX.cell 0;refine a.out _ _ (fun _=>⟨bS,ap.out _ _ _ _ G⟩) ?_;clear a l;have cz:=d.out.1.push d.out.2.1 d1 c8 E;have ds:=UFr.push (u:= .slice (some ⟨a3,0,none⟩) (f.length+1) bc) d.out.1 E;have cq:=ax a5 g 0 (.slice (some ⟨a3,0,none⟩) (f.length+1) bc);have cn:=G.only cq (fun e=>by have:=bX;rw[<-e]at this;unfold Blk at this G;rw[G]at this;cases this);have dD:=bX.free 0;have X:=t6 cz (u2 ds (u2 b8 cn));clear cz ds bX d1 c8 E b8 dc G cn cq;refine ah 8 fun l a=> ?_;go_wp2_with fail;refine ao a ?_;clear a l;refine ah 9 fun l a=> ?_;go_wp2_with fail;refine ao a ?_;clear a l;refine ah 10 fun l a=> ?_;go_wp2_with fail;refine aU a ?_;clear a l bS dD cs;have bR:=X.out.1;have cr:=ag.keep ((aV C.out).trans (d.out.1.keepT X.out.2.1 uv uv)) ((aV C.out).trans (d.out.1.keepT X.out.2.1 uv uv));have cp:=X.out.2.2.2;have ef:Hid (UQ B0 g rest rt (some ⟨b,0,none⟩) w (a5.setCell ⟨g,0,none⟩ (.slice (some ⟨a3,0,none⟩) (f.length+1) bc)) (f++[c])):=bR.uq (Y.out.trans ((OnlyS.ofBelow C.out).trans X.out.2.1)) (by
    rcases X.out.2.2.1 with e|e
    ·exact u5 e.symm
    ·refine u4 ⟨a3,rfl,?_⟩;have eU:=Y.out.size;have ek:=C.out.size;omega)
   generalize a5.setCell ⟨g,0,none⟩ (.slice (some ⟨a3,0,none⟩) (f.length+1) bc)=cL at*;have bS:cL.cell? ⟨g,0,none⟩=some (.slice (some ⟨a3,0,none⟩) (f++[c]).length bc):=bR.blk.cell 0;rw[u7,x2]at bS;have a0:cL.cell? ⟨N,2,none⟩=some (.slice n.ka c.keys.length n.kc):=cp.cell 2;obtain⟨e1,e2,a2,bT⟩:=cr.keys.get F.2;rw[eh _ _ F.2,F.1,wR]at bT;rw[a2]at a0;have eR:(0:Int)< (c.keys.length:Int):=by have:=F.2;omega
   generalize c.keys.length=eq at*;clear bR cr cp d X C Y a2 ag bA bP F;go_wp2_with fail
   go_quiet (fail)
   go_wp2_with fail
   go_ret2
   rw[a6.out trivial,a7.out.1,a7.out.2,c4.out];rw[<-c3.out];exact⟨rfl,ef.out.below (oU _ _)⟩
end
